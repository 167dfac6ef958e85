"""Units of measure through formulas."""

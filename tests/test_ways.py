"""The ways that fit, looked at directly: what a line leaves of them, with its units as they are and not mirrored."""

import unittest

from chance import Chance
from unitformulas.uni import every_way, units_in, ways_with_line


def line(names, known):
    """A line's thirteen exponents, from the first of the names' and of the base units'."""
    return names + [0] * (6 - len(names)) + known + [0] * (7 - len(known))


def value(exponents, way, unit):
    return sum(x * y for x, y in zip(exponents, way)) + exponents[6 + unit]


def narrowed(*lines):
    ways = every_way()
    for exponents in lines:
        ways = ways_with_line(ways, exponents)
    return ways


class Ways(unittest.TestCase):
    def test_without_lines_every_way_fits(self):
        ways = every_way()
        self.assertEqual(ways.starts, [[0] * 6] * 7)
        self.assertEqual(ways.steps, [[int(k == name) for k in range(6)] for name in range(6)])

    def test_a_line_that_makes_a_name_known(self):
        ways = narrowed(line([-2], [6, -4, 0, 2]))
        self.assertEqual([start[0] for start in ways.starts], [3, -2, 0, 1, 0, 0, 0])
        self.assertEqual([step[0] for step in ways.steps], [0] * 5)

    def test_a_line_of_known_units_alone(self):
        self.assertEqual(len(narrowed(line([], [])).steps), 6)
        for unit in range(7):
            self.assertIsNone(ways_with_line(every_way(), line([], [0] * unit + [1])))

    def test_a_line_that_says_nothing_new(self):
        first = line([2, -3], [1, 5])
        once = narrowed(first)
        for again in (first, line([-2, 3], [-1, -5]), line([4, -6], [2, 10])):
            twice = ways_with_line(once, again)
            self.assertEqual((twice.starts, len(twice.steps)), (once.starts, 5))

    def test_a_line_against_an_earlier_one(self):
        once = narrowed(line([2, -3], [1, 5]))
        self.assertIsNone(ways_with_line(once, line([2, -3], [1, 4])))
        self.assertIsNone(ways_with_line(once, line([4, -6], [2, 11])))

    def test_what_is_narrowed_is_not_changed(self):
        ways = every_way()
        ways_with_line(ways, line([2, -3, 4], [1, 5]))
        ways_with_line(ways, line([2, -4], [1]))
        self.assertEqual((ways.starts, ways.steps), (every_way().starts, every_way().steps))

    def test_all_that_is_left_meets_all_lines(self):
        for seed in range(200):
            chance = Chance(seed)
            ways = every_way()
            lines = []
            for number in range(8):
                told = [chance.below(13) - 6 for k in range(6)] + [chance.below(5) - 2 for k in range(7)]
                left = ways_with_line(ways, told)
                if left is not None:
                    ways = left
                    lines.append(told)
            for told in lines:
                self.assertEqual([value(told, start, unit) for unit, start in enumerate(ways.starts)], [0] * 7)
                self.assertEqual([value(told[:6] + [0] * 7, step, 0) for step in ways.steps], [0] * len(ways.steps))

    def test_units_are_asked_without_a_change(self):
        ways = narrowed(line([2, -3], [1, 5]))
        starts, steps = [list(start) for start in ways.starts], [list(step) for step in ways.steps]
        self.assertEqual(units_in(ways, line([1], [])), (3, [1, 2, 0, 0, 0, 0, 0]))
        self.assertEqual(units_in(ways, line([4, -6], [0, 1])), (0, [-2, -9, 0, 0, 0, 0, 0]))
        self.assertEqual((ways.starts, ways.steps), (starts, steps))


if __name__ == "__main__":
    unittest.main()

"""name, base, mul, div and pow, at their edges too."""

import unittest

from calls import GREATEST, GREATEST_SIGNED, LEAST_SIGNED, NAME, PURE, base, div, filled_to, known, last, mul
from calls import power, root, run

MISSING = [2, 3, 63, 64, 65, GREATEST_SIGNED, GREATEST_SIGNED + 1, GREATEST - 1, GREATEST]
TWO = [NAME, known(1)]


def only(unit, exponent):
    """The call base with an exponent for one base unit alone."""
    return base(*[exponent if k == unit else 0 for k in range(7)])


def is_pure(*calls):
    """Whether the last formula is kept with no exponent but 0: any other is too large to that power."""
    made = run(*calls)[-1]
    return last(*calls, power(made, GREATEST_SIGNED)) == made + 1


def same(calls, a, b):
    """Whether a and b are kept with the same exponents."""
    return is_pure(*calls, div(a, b))


class Names(unittest.TestCase):
    def test_the_sixth_and_the_seventh(self):
        self.assertEqual(run(*[NAME] * 8), [0, 1, 2, 3, 4, 5, -2, -2])

    def test_names_count_whatever_stands_between_them(self):
        self.assertEqual(run(*[NAME, PURE] * 6, NAME, PURE), list(range(12)) + [-2, 12])

    def test_the_64th_formula_and_the_65th(self):
        self.assertEqual(last(*filled_to(63), NAME), 63)
        self.assertEqual(last(*filled_to(64), NAME), -2)

    def test_names_are_not_one_another(self):
        calls = [NAME] * 6
        for a in range(6):
            for b in range(6):
                self.assertEqual(same(calls, a, b), a == b)

    def test_a_name_is_no_pure_number(self):
        self.assertFalse(is_pure(NAME))


class Base(unittest.TestCase):
    def test_how_many_exponents(self):
        for count in (0, 1, 6, 8, 14, 99, 100):
            self.assertEqual(run(base(*[0] * count)), [-2])
            self.assertEqual(run(base(*[1] * count)), [-2])
        self.assertEqual(run(base(*[0] * 7)), [0])

    def test_largest_exponents(self):
        for unit in range(7):
            for exponent in (6, -6, 5, -5, 0):
                self.assertEqual(run(only(unit, exponent)), [0])
            for exponent in (7, -7, 8, -8, GREATEST_SIGNED, LEAST_SIGNED):
                self.assertEqual(run(only(unit, exponent)), [-2])
        self.assertEqual(run(base(6, -6, 6, -6, 6, -6, 6)), [0])
        self.assertEqual(run(base(-6, 6, -6, 6, -6, 6, -7)), [-2])

    def test_the_64th_formula_and_the_65th(self):
        self.assertEqual(last(*filled_to(63), known(1)), 63)
        self.assertEqual(last(*filled_to(64), known(1)), -2)
        self.assertEqual(run(*[PURE] * 66), list(range(64)) + [-2, -2])

    def test_each_exponent_is_kept_where_it_stands(self):
        exponents = (1, -2, 3, -4, 5, -6, 6)
        self.assertTrue(same([base(*exponents), base(*exponents)], 0, 1))
        for unit in range(7):
            other = [exponent - (k == unit) * exponent for k, exponent in enumerate(exponents)]
            self.assertFalse(same([base(*exponents), base(*other)], 0, 1))


class Products(unittest.TestCase):
    def test_mul_multiplies_units(self):
        calls = [base(1, -2, 3, 0, 2, -6, 6), base(2, 3, -3, 1, -4, 3, -6), mul(0, 1), base(3, 1, 0, 1, -2, -3, 0)]
        self.assertTrue(same(calls, 2, 3))
        self.assertFalse(same(calls, 2, 0))

    def test_div_divides_the_first_by_the_second(self):
        calls = [base(1, -2, 3, 0, 2, -6, 6), base(2, 3, -3, 1, -4, -3, 6), div(0, 1), base(-1, -5, 6, -1, 6, -3, 0)]
        self.assertTrue(same(calls, 2, 3))
        self.assertTrue(same(calls + [div(1, 0), power(4, -1)], 2, 5))
        self.assertFalse(same(calls + [div(1, 0)], 2, 4))

    def test_products_of_names(self):
        calls = [NAME, NAME, known(1), mul(0, 1), mul(1, 0), div(3, 1), div(3, 0), mul(3, 2), div(7, 2)]
        self.assertTrue(same(calls, 3, 4))
        self.assertTrue(same(calls, 5, 0))
        self.assertTrue(same(calls, 6, 1))
        self.assertTrue(same(calls, 8, 3))
        self.assertFalse(same(calls, 7, 3))
        self.assertFalse(same(calls, 5, 1))

    def test_by_itself(self):
        self.assertTrue(is_pure(NAME, div(0, 0)))
        self.assertTrue(is_pure(base(1, 2, 3, 4, 5, 6, -6), div(0, 0)))
        self.assertTrue(same([NAME, mul(0, 0), power(0, 2)], 1, 2))

    def test_largest_exponents_of_base_units(self):
        for unit in range(7):
            for sign in (1, -1):
                three_and_four = [only(unit, 3 * sign), only(unit, 4 * sign)]
                self.assertEqual(last(*three_and_four, mul(0, 0)), 2)
                self.assertEqual(last(*three_and_four, mul(0, 1)), -2)
                self.assertEqual(last(*three_and_four, mul(1, 0)), -2)
                opposite = [only(unit, 3 * sign), only(unit, -3 * sign), only(unit, -4 * sign)]
                self.assertEqual(last(*opposite, div(0, 1)), 3)
                self.assertEqual(last(*opposite, div(0, 2)), -2)
                self.assertEqual(last(*opposite, div(2, 0)), -2)

    def test_largest_exponents_of_names(self):
        for name in range(6):
            for sign in (1, -1):
                start = [NAME] * 6 + [power(name, 3 * sign), power(name, 4 * sign), power(name, -3 * sign)]
                self.assertEqual(last(*start, mul(6, 6)), 9)
                self.assertEqual(last(*start, mul(6, 7)), -2)
                self.assertEqual(last(*start, div(6, 8)), 9)
                self.assertEqual(last(*start, div(7, 8)), -2)
                self.assertEqual(last(*start, div(8, 7)), -2)

    def test_one_at_6_and_one_beyond(self):
        for start in ([NAME], [known(0, 0, 1)]):
            up = start + [power(0, 6)]
            self.assertEqual(last(*up, mul(1, 0)), -2)
            self.assertEqual(last(*up, div(1, 0)), 2)
            self.assertEqual(last(*up, mul(1, 1)), -2)
            down = start + [power(0, -6)]
            self.assertEqual(last(*down, div(1, 0)), -2)
            self.assertEqual(last(*down, mul(1, 0)), 2)
            self.assertEqual(last(*down, mul(1, 1)), -2)

    def test_a_name_of_known_unit_counts_as_a_name(self):
        self.assertEqual(run(known(6), root(0, 1), mul(0, 1), mul(2, 0), power(1, 6)), [0, 1, 2, -2, 3])

    def test_the_64th_formula_and_the_65th(self):
        for call in (mul(0, 1), div(0, 1)):
            self.assertEqual(last(*filled_to(63), call), 63)
            self.assertEqual(last(*filled_to(64), call), -2)

    def test_formulas_that_there_are_not(self):
        self.assertEqual(run(mul(0, 0), div(0, 0)), [-1, -1])
        for missing in MISSING:
            for call in (mul, div):
                for a, b in ((missing, 0), (0, missing), (missing, missing)):
                    self.assertEqual(last(*TWO, call(a, b)), -1)

    def test_a_formula_that_is_just_not_there_yet(self):
        self.assertEqual(run(*TWO, mul(1, 2), mul(1, 1), mul(1, 2), mul(3, 3), div(4, 4)), [0, 1, -1, 2, 3, 4, 5])

    def test_missing_goes_before_too_many_and_too_large(self):
        full = filled_to(64)
        six = [known(6)]
        for call in (mul, div):
            self.assertEqual(last(*full, call(64, 0)), -1)
            self.assertEqual(last(*full, call(0, 64)), -1)
            self.assertEqual(last(*full, call(0, GREATEST)), -1)
            self.assertEqual(last(*full, call(63, 63)), -2)
            self.assertEqual(last(*six, call(0, 1)), -1)
            self.assertEqual(last(*six, call(1, 0)), -1)


class Powers(unittest.TestCase):
    def test_powers_raise_units(self):
        start = [base(1, -1, 2, -3, 0, 3, -2)]
        self.assertTrue(same(start + [power(0, 2), base(2, -2, 4, -6, 0, 6, -4)], 1, 2))
        self.assertTrue(same(start + [power(0, -2), base(-2, 2, -4, 6, 0, -6, 4)], 1, 2))
        self.assertTrue(same(start + [power(0, 1)], 0, 1))
        self.assertTrue(same([NAME, power(0, 3), mul(0, 0), mul(2, 0)], 1, 3))
        self.assertTrue(same([NAME, known(1), div(1, 0), power(2, -2), mul(0, 0), mul(1, 1), div(4, 5)], 3, 6))

    def test_power_0_is_a_pure_number(self):
        self.assertTrue(is_pure(NAME, power(0, 0)))
        self.assertTrue(is_pure(base(6, -6, 6, -6, 6, -6, 6), power(0, 0)))
        self.assertTrue(is_pure(PURE, power(0, 0)))

    def test_largest_exponents(self):
        for start in [[NAME]] + [[only(unit, 1)] for unit in range(7)]:
            for k, number in ((6, 1), (-6, 1), (7, -2), (-7, -2), (1, 1), (-1, 1)):
                self.assertEqual(last(*start, power(0, k)), number)
            for k, number in ((3, 2), (-3, 2), (4, -2), (-4, -2)):
                self.assertEqual(last(*start, power(0, 2), power(1, k)), number)
                self.assertEqual(last(*start, power(0, -2), power(1, k)), number)

    def test_each_name_counts(self):
        for name in range(6):
            self.assertEqual(last(*[NAME] * 6, power(name, 6)), 6)
            self.assertEqual(last(*[NAME] * 6, power(name, 7)), -2)
            self.assertEqual(last(*[NAME] * 6, power(name, -7)), -2)

    def test_greatest_and_least_powers(self):
        for k in (GREATEST_SIGNED, LEAST_SIGNED):
            self.assertEqual(run(NAME, power(0, k)), [0, -2])
            self.assertEqual(run(known(0, 0, -1), power(0, k)), [0, -2])
            self.assertEqual(run(PURE, power(0, k), power(1, k)), [0, 1, 2])
            self.assertTrue(is_pure(PURE, power(0, k)))
            self.assertTrue(is_pure(NAME, div(0, 0), power(1, k)))

    def test_the_64th_formula_and_the_65th(self):
        for k in (0, 1, -1, 6):
            self.assertEqual(last(*filled_to(63), power(0, k)), 63)
            self.assertEqual(last(*filled_to(64), power(0, k)), -2)

    def test_formulas_that_there_are_not(self):
        self.assertEqual(run(power(0, 0)), [-1])
        for missing in MISSING:
            for k in (0, 1, -1, 7, GREATEST_SIGNED, LEAST_SIGNED):
                self.assertEqual(last(*TWO, power(missing, k)), -1)

    def test_missing_goes_before_too_many(self):
        self.assertEqual(last(*filled_to(64), power(64, 1)), -1)
        self.assertEqual(last(*filled_to(64), power(GREATEST, LEAST_SIGNED)), -1)


if __name__ == "__main__":
    unittest.main()

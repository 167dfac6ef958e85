"""root: its edges, and where whole exponents can or cannot be."""

import unittest

from calls import GREATEST, GREATEST_SIGNED, LEAST_SIGNED, NAME, PURE, base, div, filled_to, known, last, mul
from calls import power, root, run

# Formula 0 is a name, 1 the first base unit, 2 their product, 3 the name's quotient by the base unit.
X_AND_M = [NAME, known(1), mul(0, 1), div(0, 1)]


class Edges(unittest.TestCase):
    def test_which_roots_there_are(self):
        for k in range(1, 7):
            self.assertEqual(run(NAME, root(0, k)), [0, 1])
            self.assertEqual(run(PURE, root(0, k)), [0, 1])
        for k in (0, -1, -2, -6, 7, 8, 12, GREATEST_SIGNED, LEAST_SIGNED):
            self.assertEqual(run(NAME, root(0, k)), [0, -2])
            self.assertEqual(run(PURE, root(0, k)), [0, -2])

    def test_a_root_is_a_name(self):
        self.assertEqual(run(NAME, *[root(0, 2)] * 6), [0, 1, 2, 3, 4, 5, -2])
        self.assertEqual(run(PURE, *[root(0, 2)] * 7), [0, 1, 2, 3, 4, 5, 6, -2])
        self.assertEqual(last(PURE, *[root(0, 2)] * 6, NAME), -2)
        self.assertEqual(last(*[NAME] * 5, root(0, 2)), 5)
        self.assertEqual(last(*[NAME] * 6, root(0, 2)), -2)

    def test_a_root_is_a_new_name_alone(self):
        calls = [NAME, root(0, 2), NAME]
        self.assertEqual(last(*calls, power(1, 6)), 3)
        self.assertEqual(last(*calls, power(1, 7)), -2)
        for other in (0, 2):
            self.assertEqual(last(*calls, div(1, other), power(3, GREATEST_SIGNED)), -2)
        self.assertEqual(last(*calls, div(1, 1), power(3, GREATEST_SIGNED)), 4)

    def test_the_64th_formula_and_the_65th(self):
        for k in (1, 2, 6):
            self.assertEqual(last(*filled_to(63), root(0, k)), 63)
            self.assertEqual(last(*filled_to(64), root(0, k)), -2)

    def test_formulas_that_there_are_not(self):
        self.assertEqual(run(root(0, 1)), [-1])
        for missing in (4, 5, 63, 64, GREATEST_SIGNED + 1, GREATEST):
            for k in (1, 2, 6, 0, 7, -1, LEAST_SIGNED):
                self.assertEqual(last(*X_AND_M, root(missing, k)), -1)

    def test_missing_goes_before_too_many(self):
        self.assertEqual(last(*filled_to(64), root(64, 2)), -1)
        self.assertEqual(last(*[NAME] * 6, root(6, 2)), -1)
        self.assertEqual(last(*[NAME] * 6, root(GREATEST, 0)), -1)

    def test_too_many_goes_before_what_cannot_be(self):
        self.assertEqual(run(known(1), root(0, 7), root(0, 0), root(0, -2), root(0, 2)), [0, -2, -2, -2, -3])
        self.assertEqual(last(known(1), *[NAME] * 5, root(0, 2)), -3)
        self.assertEqual(last(known(1), *[NAME] * 6, root(0, 2)), -2)
        self.assertEqual(last(*filled_to(63), root(1, 2)), -3)
        self.assertEqual(last(*filled_to(64), root(1, 2)), -2)


class KnownUnits(unittest.TestCase):
    def test_just_where_the_exponent_is_a_multiple(self):
        for unit in range(7):
            for exponent in range(-6, 7):
                for k in range(1, 7):
                    call = base(*[exponent if place == unit else 0 for place in range(7)])
                    self.assertEqual(run(call, root(0, k)), [0, 1 if exponent % k == 0 else -3])

    def test_every_base_unit_counts(self):
        even = [2, -4, 6, 0, -2, 4, -6]
        self.assertEqual(run(base(*even), root(0, 2)), [0, 1])
        for unit in range(7):
            odd = [exponent + (place == unit and 1 - 2 * (exponent > 0)) for place, exponent in enumerate(even)]
            self.assertEqual(run(base(*odd), root(0, 2)), [0, -3])

    def test_roots_of_roots(self):
        self.assertEqual(run(known(4), root(0, 2), root(1, 2), root(2, 2)), [0, 1, 2, -3])
        self.assertEqual(run(known(6), root(0, 3), root(1, 2), root(2, 2), root(1, 3)), [0, 1, 2, -3, -3])
        self.assertEqual(run(known(-6), root(0, 2), root(1, 3), root(1, 2), root(2, 3)), [0, 1, 2, -3, -3])

    def test_the_first_root_is_the_unit_itself(self):
        self.assertEqual(run(known(3), root(0, 1), root(1, 3), root(1, 2), root(2, 2)), [0, 1, 2, -3, -3])

    def test_root_of_products_and_powers(self):
        self.assertEqual(run(known(3), known(1), mul(0, 1), div(0, 1), root(2, 4), root(3, 2), root(3, 4)),
                         [0, 1, 2, 3, 4, 5, -3])
        self.assertEqual(run(known(1), power(0, -6), root(1, 6), root(2, 2)), [0, 1, 2, -3])
        self.assertEqual(run(known(1), root(0, 1), power(1, 2), root(2, 2), power(1, 3), root(4, 2)),
                         [0, 1, 2, 3, 4, -3])

    def test_a_pure_number_has_all_roots(self):
        self.assertEqual(run(PURE, root(0, 2), root(1, 3), root(2, 4), root(3, 5), root(4, 6)), [0, 1, 2, 3, 4, 5])
        self.assertEqual(run(NAME, div(0, 0), root(1, 6)), [0, 1, 2])

    def test_a_root_of_a_pure_number_is_pure(self):
        self.assertEqual(run(PURE, root(0, 6), known(1), mul(1, 2), root(3, 2), root(1, 5)), [0, 1, 2, 3, -3, 4])


class UnitsThatFollow(unittest.TestCase):
    def test_a_free_name_may_be_any_power(self):
        self.assertEqual(run(*X_AND_M, root(2, 2)), [0, 1, 2, 3, 4])
        self.assertEqual(run(*X_AND_M, root(2, 6), root(4, 6), root(5, 6)), [0, 1, 2, 3, 4, 5, 6])

    def test_a_square_by_an_odd_unit_is_no_square(self):
        self.assertEqual(run(NAME, power(0, 2), known(1), mul(1, 2), root(3, 2), root(3, 3)), [0, 1, 2, 3, -3, 4])
        self.assertEqual(run(NAME, power(0, -4), known(0, 3), div(1, 2), root(3, 2), root(3, 4)), [0, 1, 2, 3, -3, -3])

    def test_a_square_root_binds_the_name(self):
        self.assertEqual(run(*X_AND_M, root(0, 2), root(2, 2)), [0, 1, 2, 3, 4, -3])
        self.assertEqual(run(*X_AND_M, root(0, 2), root(3, 2)), [0, 1, 2, 3, 4, -3])
        self.assertEqual(run(*X_AND_M, root(0, 2), mul(2, 1), root(5, 2)), [0, 1, 2, 3, 4, 5, 6])
        self.assertEqual(run(*X_AND_M, root(0, 4), root(2, 2), root(2, 3)), [0, 1, 2, 3, 4, -3, 5])

    def test_the_order_of_the_lines_is_one(self):
        self.assertEqual(run(*X_AND_M, root(0, 2), root(2, 2)), [0, 1, 2, 3, 4, -3])
        self.assertEqual(run(*X_AND_M, root(2, 2), root(0, 2)), [0, 1, 2, 3, 4, -3])
        self.assertEqual(run(*X_AND_M, root(2, 2), root(3, 2)), [0, 1, 2, 3, 4, 5])

    def test_a_line_twice_says_the_same(self):
        self.assertEqual(run(*X_AND_M, root(0, 2), root(0, 2), root(0, 2), root(2, 2), root(2, 3)),
                         [0, 1, 2, 3, 4, 5, 6, -3, 7])

    def test_a_second_root_of_the_same_is_the_same_unit(self):
        start = [NAME, root(0, 2), root(0, 2), div(1, 2), known(1), mul(3, 4)]
        self.assertEqual(run(*start, root(5, 2), root(3, 2)), [0, 1, 2, 3, 4, 5, -3, 6])

    def test_lines_in_one_base_unit_say_nothing_of_another(self):
        start = [NAME, known(1), known(0, 1), mul(0, 1), mul(0, 2), root(3, 2)]
        self.assertEqual(run(*start, root(4, 2)), [0, 1, 2, 3, 4, 5, -3])
        self.assertEqual(run(*start, mul(4, 2), root(6, 2)), [0, 1, 2, 3, 4, 5, 6, -3])
        self.assertEqual(run(*start, mul(4, 2), mul(6, 1), root(7, 2)), [0, 1, 2, 3, 4, 5, 6, 7, 8])

    def test_squares_and_cubes_together(self):
        # x is a square and x times m a cube: x has an exponent of 2, 8, 14 and so on, up or down.
        start = [*X_AND_M, root(0, 2), root(2, 3)]
        self.assertEqual(run(*start), [0, 1, 2, 3, 4, 5])
        self.assertEqual(last(*start, root(0, 3)), -3)
        self.assertEqual(last(*start, root(2, 2)), -3)
        self.assertEqual(last(*start, root(0, 4)), 6)
        self.assertEqual(last(*start, root(3, 6)), -3)
        self.assertEqual(last(*start, mul(2, 1), mul(6, 1), mul(7, 1), root(8, 6)), 9)

    def test_a_refusal_that_follows_through_two_roots_together(self):
        # x y and y z are squares, so x z is one, and x z m is none; with either root alone it may be one.
        start = [NAME, NAME, NAME, known(1), mul(0, 1), mul(1, 2), mul(0, 2), mul(6, 3)]
        self.assertEqual(run(*start, root(4, 2), root(5, 2), root(7, 2))[8:], [8, 9, -3])
        self.assertEqual(run(*start, root(4, 2), root(5, 2), root(6, 2))[8:], [8, 9, 10])
        self.assertEqual(run(*start, root(4, 2), root(7, 2), root(5, 2))[8:], [8, 9, -3])
        self.assertEqual(run(*start, root(7, 2), root(5, 2), root(4, 2))[8:], [8, 9, -3])

    def test_units_that_follow_from_roots_of_a_known_one(self):
        # Of m to the power 6 the square root by the cube root is m itself.
        start = [known(6), root(0, 2), root(0, 3), div(1, 2), known(1)]
        self.assertEqual(last(*start, root(3, 2)), -3)
        self.assertEqual(last(*start, mul(3, 4), root(5, 2)), 6)
        self.assertEqual(last(*start, div(3, 4), root(5, 6)), 6)

    def test_lines_with_several_names(self):
        # x y is a square, so x by y is one too: both exponents are even or both odd.
        start = [NAME, NAME, mul(0, 1), div(0, 1), root(2, 2), known(0, 0, 0, 0, 0, 0, 1)]
        self.assertEqual(last(*start, root(3, 2)), 6)
        self.assertEqual(last(*start, mul(3, 5), root(6, 2)), -3)
        self.assertEqual(last(*start, mul(0, 5), root(6, 2)), 7)
        self.assertEqual(last(*start, mul(0, 5), root(6, 2), root(1, 2)), -3)
        self.assertEqual(last(*start, mul(0, 5), root(6, 2), mul(1, 5), root(8, 2)), 9)

    def test_what_was_accepted_goes_on_to_be(self):
        accepted = [*X_AND_M, root(0, 2), root(2, 3)]
        for a, k in ((0, 2), (2, 3)):
            self.assertEqual(last(*accepted, root(a, k)), 6)


if __name__ == "__main__":
    unittest.main()

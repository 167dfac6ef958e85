"""unit: its edges, and g and c before and behind lines."""

import unittest

from calls import ANY, GREATEST, GREATEST_SIGNED, INIT, NAME, PURE, add, base, behind, div, eq, filled_to, known
from calls import last, mul, power, root, run, seven, unit


class Edges(unittest.TestCase):
    def test_formulas_that_there_are_not(self):
        for missing in (0, 1, 63, 64, GREATEST_SIGNED, GREATEST_SIGNED + 1, GREATEST):
            self.assertEqual(run(unit(missing)), [-1])
            self.assertEqual(run(NAME, INIT, unit(missing)), [0, 0, -1])
        for missing in (2, 3, 63, 64, 65, GREATEST_SIGNED, GREATEST_SIGNED + 1, GREATEST - 1, GREATEST):
            self.assertEqual(run(NAME, known(1), unit(missing)), [0, 1, -1])

    def test_the_last_of_64_formulas(self):
        start = filled_to(63) + [known(1, 2)]
        self.assertEqual(behind(start, [unit(63), unit(64), unit(0)]), [(0, seven(1, 2)), -1, ANY])

    def test_unit_changes_nothing(self):
        start = [NAME, known(1), mul(0, 1), power(0, 2)]
        asked = [unit(a) for a in range(4)]
        once = behind(start, asked)
        self.assertEqual(behind(start, asked * 3), once * 3)
        self.assertEqual(behind(start + asked, [NAME, eq(0, 1), unit(3)]), [4, 0, (0, seven(2))])


class BaseUnitsAlone(unittest.TestCase):
    def test_a_known_unit_is_told_as_it_is(self):
        for exponents in ((1, -2, 3, -4, 5, -6, 6), (0,) * 7, (6,) * 7, (-6,) * 7, (0, 0, 0, 0, 0, 0, -1)):
            self.assertEqual(run(base(*exponents), unit(0)), [0, (0, exponents)])

    def test_products_and_powers(self):
        start = [base(2, -4, 0, 0, 6, 0, -2), known(1, 2), mul(0, 1), div(0, 1), div(1, 0), power(1, -2), power(0, 0)]
        units = [(2, -4, 0, 0, 6, 0, -2), seven(1, 2), (3, -2, 0, 0, 6, 0, -2), (1, -6, 0, 0, 6, 0, -2),
                 (-1, 6, 0, 0, -6, 0, 2), seven(-2, -4), seven()]
        self.assertEqual(behind(start, [unit(a) for a in range(7)]), [(0, exponents) for exponents in units])

    def test_lines_of_names_make_no_difference(self):
        start = [known(3, -1), NAME, power(1, 3), eq(2, 2), root(1, 2), unit(0)]
        self.assertEqual(last(*start), (0, seven(3, -1)))

    def test_names_that_fall_out(self):
        start = [NAME, NAME, known(1, -1), mul(0, 2), div(3, 0), mul(1, 0), div(0, 5), mul(6, 1), power(1, 0)]
        self.assertEqual(behind(start, [unit(4), unit(7), unit(8)]), [(0, seven(1, -1)), (0, seven()), (0, seven())])


class NamesBeforeLines(unittest.TestCase):
    def test_a_name_alone_may_have_any_unit(self):
        for count in range(1, 7):
            self.assertEqual(behind([NAME] * count, [unit(a) for a in range(count)]), [ANY] * count)

    def test_powers_of_a_name(self):
        for k in range(-6, 7):
            self.assertEqual(run(NAME, power(0, k), unit(1)), [0, 1, (abs(k), seven())])

    def test_a_power_of_a_name_by_a_known_unit(self):
        # From 0 to g - 1, whatever the known exponents are.
        start = [NAME, power(0, 4), power(0, -4), base(1, -1, 2, -2, 3, -3, 6), mul(1, 3), mul(2, 3), div(1, 3)]
        self.assertEqual(behind(start, [unit(4), unit(5)]), [(4, (1, 3, 2, 2, 3, 1, 2))] * 2)
        self.assertEqual(last(*start, unit(6)), (4, (3, 1, 2, 2, 1, 3, 2)))

    def test_each_remainder(self):
        for g in range(1, 7):
            for exponent in range(-6, 7):
                start = [NAME, power(0, g), known(0, exponent, 0, 1), mul(1, 2)]
                self.assertEqual(last(*start, unit(3)), (g, seven(0, exponent % g, 0, 1 % g)))

    def test_any_unit_has_exponents_0(self):
        self.assertEqual(last(NAME, base(6, -6, 5, -5, 4, -4, 3), mul(0, 1), unit(2)), ANY)

    def test_products_of_names(self):
        start = [NAME, NAME, power(0, 4), power(1, 6), mul(2, 3), mul(0, 3), power(0, 6), mul(6, 3)]
        start += [known(5), mul(7, 8)]
        told = [(2, seven()), ANY, (6, seven()), (6, seven(5))]
        self.assertEqual(behind(start, [unit(4), unit(5), unit(7), unit(9)]), told)

    def test_the_greatest_common_divisor_over_three_names(self):
        start = [NAME, NAME, NAME, power(0, 6), power(1, -4), power(2, 3), mul(3, 4), mul(6, 5), mul(3, 5), mul(4, 5)]
        self.assertEqual(behind(start, [unit(6), unit(7), unit(8), unit(9)]), [(2, seven()), ANY, (3, seven()), ANY])


class BehindLines(unittest.TestCase):
    def test_a_name_that_becomes_known(self):
        start = [NAME, base(1, -2, 3, -4, 5, -6, 6), eq(0, 1), power(0, -1), root(0, 1)]
        self.assertEqual(behind(start, [unit(0), unit(2), unit(3)]),
                         [(0, (1, -2, 3, -4, 5, -6, 6)), (0, (-1, 2, -3, 4, -5, 6, -6)), (0, (1, -2, 3, -4, 5, -6, 6))])

    def test_a_power_that_becomes_known(self):
        self.assertEqual(run(NAME, power(0, 3), known(-6, 3), eq(1, 2), unit(0)), [0, 1, 2, 0, (0, seven(-2, 1))])
        self.assertEqual(run(NAME, power(0, -3), known(-6, 3), eq(1, 2), unit(0)), [0, 1, 2, 0, (0, seven(2, -1))])

    def test_products_that_become_known(self):
        # x y is m, x by y is m cubed: x is m squared, y one by m.
        start = [NAME, NAME, mul(0, 1), div(0, 1), known(1), known(3), eq(2, 4)]
        self.assertEqual(behind(start, [unit(0), unit(1), unit(2), unit(3)]), [ANY, ANY, (0, seven(1)), (2, seven(1))])
        start += [eq(3, 5)]
        self.assertEqual(behind(start, [unit(0), unit(1), unit(3)]), [(0, seven(2)), (0, seven(-1)), (0, seven(3))])

    def test_a_root_leaves_multiples(self):
        for k in range(1, 7):
            start = [NAME, root(0, k), known(1, -1), mul(0, 2)]
            self.assertEqual(behind(start, [unit(0), unit(1), unit(3)]),
                             [(k, seven()), ANY, (k, seven(1 % k, -1 % k))])

    def test_a_root_of_a_known_unit(self):
        self.assertEqual(run(known(6, -3, 0, 3), root(0, 3), unit(1)), [0, 1, (0, seven(2, -1, 0, 1))])

    def test_squares_and_cubes_together(self):
        # x is a square and x m a cube: x has exponents of m of 2, 8, 14 and so on, up or down.
        start = [NAME, known(1), mul(0, 1), root(0, 2), root(2, 3)]
        self.assertEqual(behind(start, [unit(0), unit(2), unit(3), unit(4)]),
                         [(6, seven(2)), (6, seven(3)), (3, seven(1)), (2, seven(1))])

    def test_a_line_between_powers_of_two_names(self):
        # x squared is y cubed by m: x has exponents of 3 apart, y of 2 apart, and the two go together.
        start = [NAME, NAME, known(1), power(0, 2), power(1, 3), mul(4, 2), eq(3, 5), mul(0, 1), div(0, 1)]
        self.assertEqual(behind(start, [unit(0), unit(1), unit(3), unit(4)]),
                         [(3, seven(2)), (2, seven(1)), (6, seven(4)), (6, seven(3))])
        self.assertEqual(behind(start, [unit(6), unit(7)]), [(5, seven(3)), ANY])

    def test_different_base_units_have_remainders_of_their_own(self):
        start = [NAME, known(1, 2, 3, 4, 5, 6, -1), div(0, 1), root(2, 5)]
        self.assertEqual(behind(start, [unit(0), unit(2)]), [(5, (1, 2, 3, 4, 0, 1, 4)), (5, seven())])

    def test_lines_of_other_names_make_no_difference(self):
        start = [NAME, NAME, known(1), eq(1, 2), power(0, 2), mul(3, 1)]
        self.assertEqual(behind(start, [unit(0), unit(3), unit(4)]), [ANY, (2, seven()), (2, seven(1))])

    def test_a_refused_line_makes_no_difference(self):
        start = [NAME, power(0, 2), known(1), eq(1, 2), add(1, 2)]
        self.assertEqual(behind(start, [unit(0), unit(1), unit(2)]), [ANY, (2, seven()), (0, seven(1))])

    def test_a_formula_with_itself_makes_no_difference(self):
        start = [NAME, power(0, 2), eq(1, 1), add(1, 1), eq(0, 0)]
        self.assertEqual(behind(start, [unit(0), unit(1), unit(2)]), [ANY, (2, seven()), (2, seven())])

    def test_a_pure_name(self):
        self.assertEqual(run(NAME, power(0, 2), eq(0, 1), unit(0)), [0, 1, 0, (0, seven())])
        self.assertEqual(run(NAME, PURE, eq(0, 1), unit(0)), [0, 1, 0, (0, seven())])

    def test_g_over_a_chain_of_roots(self):
        start = [NAME] + [root(a, 6) for a in range(5)]
        self.assertEqual(behind(start, [unit(a) for a in range(6)]), [(6 ** (5 - a), seven()) for a in range(6)])
        start += [known(-1, 1), mul(0, 6)]
        self.assertEqual(behind(start, [unit(7), power(0, 6), unit(8)]), [(7776, seven(7775, 1)), 8, (46656, seven())])

    def test_large_exponents(self):
        # Each name is the 12th power of the one before it by m, the last one m to the power 6.
        start = [known(1), NAME, NAME, NAME, NAME, NAME, NAME, known(6), eq(1, 7)]
        made = 8
        for name in range(1, 6):
            start += [power(name, 6), power(name, -6), mul(name + 1, made + 1), mul(made, 0), eq(made + 2, made + 3)]
            made += 4
        exponents = [6]
        for name in range(5):
            exponents.append(12 * exponents[-1] + 1)
        self.assertEqual(behind(start, [unit(1 + k) for k in range(6)]), [(0, seven(e)) for e in exponents])
        self.assertEqual(behind(start, [power(6, -6), unit(made)]), [made, (0, seven(-6 * exponents[-1]))])

    def test_large_g(self):
        # As above, but the first name may have any unit.
        start = [known(1), NAME, NAME, NAME, NAME, NAME, NAME]
        made = 7
        for name in range(1, 6):
            start += [power(name, 6), power(name, -6), mul(name + 1, made + 1), mul(made, 0), eq(made + 2, made + 3)]
            made += 4
        remainders = [0]
        for name in range(5):
            remainders.append(12 * remainders[-1] + 1)
        self.assertEqual(behind(start, [unit(1 + k) for k in range(6)]),
                         [(12 ** k, seven(remainders[k])) for k in range(6)])
        self.assertEqual(behind(start, [power(6, -6), unit(made)]),
                         [made, (6 * 12 ** 5, seven(-6 * remainders[-1] % (6 * 12 ** 5)))])


if __name__ == "__main__":
    unittest.main()

"""add, eq and test: their edges, and where one unit can be, must be or cannot be."""

import unittest

from calls import ANY, GREATEST, GREATEST_SIGNED, NAME, PURE, add, base, behind, compare, count_made, div, eq
from calls import filled_to, known, last, mul, power, root, run, seven, unit
from chance import Chance, some_calls

MISSING = [2, 3, 63, 64, 65, GREATEST_SIGNED, GREATEST_SIGNED + 1, GREATEST - 1, GREATEST]
TWO = [NAME, known(1)]

# Formula 0 is a name, 1 the first base unit, 2 their product, 3 the name's square, 4 its square by the base unit.
X_AND_M = [NAME, known(1), mul(0, 1), power(0, 2), div(3, 1)]


def accepted_lines(calls, found):
    """The pairs of formulas of the adds and eqs that were let since the last init or back."""
    pairs = []
    for call, answer in zip(calls, found):
        if call[0] in (0, 12):
            pairs = []
        if call[0] in (7, 8) and answer >= 0:
            pairs.append((call[1], call[2]))
    return pairs


class Edges(unittest.TestCase):
    def test_formulas_that_there_are_not(self):
        for call in (add, eq, compare):
            self.assertEqual(run(call(0, 0)), [-1])
            self.assertEqual(run(call(GREATEST, GREATEST)), [-1])
            for missing in MISSING:
                for a, b in ((missing, 0), (0, missing), (1, missing), (missing, missing)):
                    self.assertEqual(last(*TWO, call(a, b)), -1)

    def test_a_formula_that_is_just_not_there_yet(self):
        self.assertEqual(run(*TWO, eq(0, 2), compare(2, 0), add(0, 2), PURE, eq(0, 2), compare(2, 0), add(0, 2)),
                         [0, 1, -1, -1, -1, 2, 0, 0, 3])

    def test_the_64th_formula_and_the_65th_of_add(self):
        for a, b in ((0, 0), (0, 1), (1, 0), (1, 1), (0, 62), (2, 62)):
            self.assertEqual(last(*filled_to(63), add(a, b)), 63)
            self.assertEqual(last(*filled_to(64), add(a, b)), -2)

    def test_missing_goes_before_too_many(self):
        for a, b in ((64, 0), (0, 64), (64, 64), (GREATEST, 1), (1, GREATEST)):
            self.assertEqual(last(*filled_to(64), add(a, b)), -1)

    def test_too_many_goes_before_what_cannot_be(self):
        self.assertEqual(last(*filled_to(63), add(1, 2)), -3)
        self.assertEqual(last(*filled_to(64), add(1, 2)), -2)

    def test_missing_goes_before_what_cannot_be(self):
        for call in (add, eq, compare):
            self.assertEqual(last(known(1), known(2), call(0, 2)), -1)
            self.assertEqual(last(known(1), known(2), call(2, 0)), -1)

    def test_add_that_finds_no_room_is_no_line(self):
        self.assertEqual(behind(filled_to(64), [add(0, 1), unit(0), compare(0, 1)]), [-2, ANY, 1])

    def test_eq_and_test_need_no_room(self):
        for a, b in ((0, 1), (1, 0), (0, 63), (63, 63), (2, 63)):
            self.assertEqual(last(*filled_to(64), eq(a, b)), 0)
        self.assertEqual(behind(filled_to(64), [eq(1, 63), compare(1, 63)]), [-3, 2])
        self.assertEqual(behind(filled_to(64), [compare(0, 1), eq(0, 1), compare(0, 1)]), [1, 0, 0])
        self.assertEqual(behind(filled_to(64), [compare(0, 64), eq(64, 0), eq(64, 64), compare(GREATEST, 0)]), [-1] * 4)

    def test_a_quotient_of_larger_exponents_than_a_formula_has(self):
        # A line is no formula: x to the power 12 may be needed to say that two powers have one unit.
        start = [NAME, power(0, 6), power(0, -6), known(6), known(-6)]
        self.assertEqual(behind(start, [div(1, 2), compare(1, 2), eq(1, 2), unit(0)]), [-2, 1, 0, (0, seven())])
        self.assertEqual(behind(start, [compare(3, 4), eq(3, 4), add(3, 4)]), [2, -3, -3])
        start += [mul(1, 3), mul(2, 4)]
        self.assertEqual(behind(start, [compare(5, 6), eq(5, 6), unit(0)]), [1, 0, (0, seven(-1))])


class Add(unittest.TestCase):
    def test_a_sum_has_the_unit_of_both(self):
        self.assertEqual(run(*TWO, add(0, 1), unit(0), unit(2)), [0, 1, 2, (0, seven(1)), (0, seven(1))])
        self.assertEqual(run(*TWO, add(1, 0), unit(0), unit(2)), [0, 1, 2, (0, seven(1)), (0, seven(1))])

    def test_a_sum_is_kept_with_the_exponents_of_the_first(self):
        # Both have one unit behind the line, but x to the power 6 has no room for x, and m to the power 6 none for m.
        start = [NAME, known(6), power(0, 6)]
        self.assertEqual(behind(start, [add(2, 1), mul(3, 0)]), [3, -2])
        self.assertEqual(behind(start, [add(2, 1), mul(3, 1)]), [3, 4])
        self.assertEqual(behind(start, [add(1, 2), mul(3, 0)]), [3, 4])
        self.assertEqual(behind(start, [add(1, 2), mul(3, 1)]), [3, -2])

    def test_a_sum_stays_as_it_is_when_later_formulas_come(self):
        start = [NAME, NAME, add(0, 1), mul(2, 0), power(2, 3)]
        self.assertEqual(behind(start, [power(2, 6), power(3, 3), power(4, 2), power(4, 3)]), [5, 6, 7, -2])

    def test_sums_of_sums(self):
        start = [NAME, NAME, NAME, add(0, 1), add(3, 2), known(2, -1)]
        self.assertEqual(behind(start, [eq(5, 2), unit(0), unit(1), unit(4)]), [0] + [(0, seven(2, -1))] * 3)
        self.assertEqual(behind(start, [compare(0, 2), compare(1, 2), compare(0, 5)]), [0, 0, 1])

    def test_a_sum_that_cannot_be(self):
        self.assertEqual(run(known(1), known(2), add(0, 1), add(1, 0), add(0, 0)), [0, 1, -3, -3, 2])
        self.assertEqual(run(*X_AND_M, add(2, 0))[-1], -3)
        self.assertEqual(run(*X_AND_M, add(3, 1))[-1], -3)
        self.assertEqual(run(*X_AND_M, add(2, 1), unit(0)), [0, 1, 2, 3, 4, 5, (0, seven())])

    def test_a_formula_with_itself(self):
        self.assertEqual(run(NAME, add(0, 0), unit(0), unit(1), compare(0, 1)), [0, 1, ANY, ANY, 0])
        self.assertEqual(run(known(3, -2), add(0, 0), unit(1)), [0, 1, (0, seven(3, -2))])


class Eq(unittest.TestCase):
    def test_a_line_that_is_let_answers_0(self):
        self.assertEqual(run(*X_AND_M, eq(0, 1), eq(0, 1), eq(1, 0)), [0, 1, 2, 3, 4, 0, 0, 0])

    def test_known_units(self):
        for place in range(7):
            same = base(*[int(k == place) for k in range(7)])
            other = base(*[-int(k == place) for k in range(7)])
            self.assertEqual(run(same, same, other, eq(0, 1), eq(0, 2), eq(2, 0), eq(2, 2)), [0, 1, 2, 0, -3, -3, 0])

    def test_every_base_unit_counts(self):
        exponents = [1, -2, 3, -4, 5, -5, 6]
        for place in range(7):
            other = [exponent - (k == place) for k, exponent in enumerate(exponents)]
            self.assertEqual(run(base(*exponents), base(*other), base(*exponents), eq(0, 1), eq(0, 2)),
                             [0, 1, 2, -3, 0])

    def test_a_formula_with_itself(self):
        for a in range(5):
            self.assertEqual(behind(X_AND_M, [eq(a, a), unit(0), compare(a, a)]), [0, ANY, 0])

    def test_whole_exponents_alone(self):
        # The square of x is m to the power k.
        for k in range(-6, 7):
            told = run(NAME, power(0, 2), known(k), compare(1, 2), eq(1, 2), unit(0))[3:]
            self.assertEqual(told, [1, 0, (0, seven(k // 2))] if k % 2 == 0 else [2, -3, ANY])

    def test_whole_exponents_in_every_base_unit(self):
        even = [2, -4, 6, 0, -2, 4, -6]
        self.assertEqual(last(NAME, power(0, 2), base(*even), eq(1, 2)), 0)
        for place in range(7):
            odd = [exponent + (k == place and 1 - 2 * (exponent > 0)) for k, exponent in enumerate(even)]
            self.assertEqual(last(NAME, power(0, 2), base(*odd), eq(1, 2)), -3)

    def test_two_names_may_have_what_one_cannot(self):
        # The square of x by the cube of y is m: x may be m squared and y m.
        start = [NAME, NAME, power(0, 2), power(1, 3), div(2, 3), known(1)]
        self.assertEqual(behind(start, [eq(4, 5), unit(0), unit(1)]), [0, (3, seven(2)), (2, seven(1))])
        start = [NAME, NAME, power(0, 2), power(1, 4), div(2, 3), known(1)]
        self.assertEqual(behind(start, [eq(4, 5), unit(0), unit(1)]), [-3, ANY, ANY])

    def test_what_follows_from_several_lines_together(self):
        # x y and y z are squares, so x z is one, and x z m is none; one of the lines alone doesn't say so.
        start = [NAME, NAME, NAME, NAME, NAME, known(1)]
        start += [mul(0, 1), mul(1, 2), mul(0, 2), power(3, 2), power(4, 2)]
        lines = [eq(6, 9), eq(7, 10)]
        odd = [mul(8, 5), NAME, power(12, 2)]
        for told in (lines, lines[:1], lines[1:], []):
            calls = start + told + odd
            can_be = len(told) < 2
            self.assertEqual(last(*calls, eq(11, 13)), 0 if can_be else -3)
            self.assertEqual(last(*calls, add(11, 13)), 14 if can_be else -3)
            self.assertEqual(last(*calls, compare(11, 13)), 1 if can_be else 2)
            self.assertEqual(last(*calls, eq(8, 13)), 0)

    def test_a_contradiction_over_three_lines(self):
        # x is y, y is z, so x by z is a pure number, not m; without one of the lines it may be m.
        start = [NAME, NAME, NAME, known(1), mul(2, 3)]
        for lines, answer in (([eq(0, 1), eq(1, 2)], -3), ([eq(0, 1)], 0), ([eq(1, 2)], 0), ([eq(0, 2)], -3)):
            self.assertEqual(last(*start, *lines, eq(0, 4)), answer)
            self.assertEqual(last(*start, *lines, eq(4, 0)), answer)
            self.assertEqual(last(*start, *lines, add(0, 4)), 5 if answer == 0 else -3)
            self.assertEqual(last(*start, *lines, compare(0, 4)), 1 if answer == 0 else 2)

    def test_parity_over_three_lines(self):
        # x y is m, y z is m, x z is m: together they would need half exponents; each two of them can be.
        start = [NAME, NAME, NAME, known(1), mul(0, 1), mul(1, 2), mul(0, 2)]
        lines = [eq(4, 3), eq(5, 3), eq(6, 3)]
        for first, second, third in ((0, 1, 2), (1, 2, 0), (2, 0, 1)):
            told = behind(start, [lines[first], lines[second], lines[third]])
            self.assertEqual(told, [0, 0, -3])
        start[3] = known(2)
        self.assertEqual(behind(start, lines + [unit(0), unit(1), unit(2)]), [0, 0, 0] + [(0, seven(1))] * 3)

    def test_lines_with_roots(self):
        start = [NAME, known(1), root(0, 2), mul(0, 1)]
        self.assertEqual(behind(start, [eq(0, 1), eq(3, 1), eq(2, 1), unit(0)]), [-3, 0, -3, (0, seven())])
        self.assertEqual(behind(start, [eq(2, 1), unit(0), eq(0, 3), unit(3)]), [0, (0, seven(2)), -3, (0, seven(3))])

    def test_a_line_counts_for_a_later_root(self):
        self.assertEqual(behind(X_AND_M, [eq(0, 1), root(0, 2), root(3, 2), root(2, 2)]), [0, -3, 5, 6])
        self.assertEqual(behind(X_AND_M, [add(0, 1), root(0, 2), root(3, 2)]), [5, -3, 6])

    def test_a_line_told_twice(self):
        start = X_AND_M + [NAME, power(5, 3)]
        once = behind(start, [eq(2, 6), unit(0), unit(5), compare(0, 5), root(0, 2), root(0, 3)])
        twice = behind(start, [eq(2, 6), eq(2, 6), eq(6, 2), unit(0), unit(5), compare(0, 5), root(0, 2), root(0, 3)])
        self.assertEqual(twice, [0, 0] + once)

    def test_what_was_accepted_goes_on_to_be(self):
        for seed in range(150):
            calls, found = some_calls(3000 + seed, 40)
            for a, b in accepted_lines(calls, found):
                self.assertEqual(behind(calls, [compare(a, b), eq(a, b), eq(b, a)]), [0, 0, 0])


class Compare(unittest.TestCase):
    def test_formulas_without_names(self):
        start = [known(1), known(1), known(2), known(1, 1), PURE]
        self.assertEqual(behind(start, [compare(0, 0), compare(0, 1), compare(4, 4)]), [0, 0, 0])
        self.assertEqual(behind(start, [compare(0, 2), compare(2, 0), compare(0, 3), compare(0, 4)]), [2, 2, 2, 2])

    def test_formulas_of_names_before_lines(self):
        start = [NAME, NAME, mul(0, 1), mul(1, 0), power(0, 2), div(4, 0), power(1, 0), PURE]
        same = [(0, 0), (2, 3), (0, 5), (6, 7), (4, 4)]
        maybe = [(0, 1), (0, 2), (0, 4), (2, 4), (0, 7), (4, 6)]
        self.assertEqual(behind(start, [compare(a, b) for a, b in same]), [0] * len(same))
        self.assertEqual(behind(start, [compare(b, a) for a, b in same]), [0] * len(same))
        self.assertEqual(behind(start, [compare(a, b) for a, b in maybe]), [1] * len(maybe))
        self.assertEqual(behind(start, [compare(b, a) for a, b in maybe]), [1] * len(maybe))

    def test_names_and_known_units_before_lines(self):
        # x by x m never comes out, nor the square of x by m; x by m may.
        self.assertEqual(behind(X_AND_M, [compare(0, 2), compare(3, 1), compare(0, 1), compare(4, 1)]), [2, 2, 1, 1])
        self.assertEqual(behind(X_AND_M, [compare(3, 2), mul(4, 1), compare(5, 3)]), [1, 5, 0])

    def test_a_multiple_is_needed_in_every_base_unit(self):
        for place in range(7):
            for exponent in range(-6, 7):
                start = [NAME, power(0, 3), base(*[exponent if k == place else 0 for k in range(7)])]
                self.assertEqual(last(*start, compare(1, 2)), 1 if exponent % 3 == 0 else 2)

    def test_lines_make_sure(self):
        start = [NAME, NAME, known(1), mul(0, 2), mul(1, 2)]
        asked = [compare(0, 1), compare(3, 4), compare(0, 4), compare(0, 2), compare(1, 2)]
        self.assertEqual(behind(start, asked), [1, 1, 1, 1, 1])
        self.assertEqual(behind(start + [eq(0, 1)], asked), [0, 0, 2, 1, 1])
        self.assertEqual(behind(start + [eq(0, 4)], asked), [2, 2, 0, 1, 1])
        self.assertEqual(behind(start + [eq(0, 1), eq(0, 2)], asked), [0, 0, 2, 0, 0])
        self.assertEqual(behind(start + [add(0, 1)], asked), [0, 0, 2, 1, 1])
        self.assertEqual(behind(start + [root(0, 2)], asked), [1, 1, 1, 2, 1])

    def test_lines_of_others_make_no_difference(self):
        start = [NAME, NAME, NAME, known(1), eq(2, 3)]
        self.assertEqual(behind(start, [compare(0, 1), compare(0, 2), compare(0, 3), compare(2, 3)]), [1, 1, 1, 0])

    def test_squares_of_one_unit_have_one_unit(self):
        start = [NAME, NAME, power(0, 2), power(1, 2)]
        self.assertEqual(behind(start, [compare(0, 1), eq(2, 3), compare(0, 1)]), [1, 0, 0])

    def test_test_changes_nothing(self):
        asked = [compare(a, b) for a in range(5) for b in range(5)]
        self.assertEqual(run(*X_AND_M, *asked, *asked)[30:], run(*X_AND_M, *asked)[5:])
        self.assertEqual(behind(X_AND_M + asked, [unit(0), NAME, eq(0, 1), compare(0, 1)]), [ANY, 5, 0, 0])

    def test_eq_and_add_are_refused_just_where_test_says_2(self):
        seen = {0: 0, 1: 0, 2: 0}
        for seed in range(250):
            calls = some_calls(2000 + seed, 30)[0] + [PURE]
            made = count_made(calls)
            chance = Chance(seed)
            for tried in range(6):
                a, b = chance.below(made), chance.below(made)
                told = last(*calls, compare(a, b))
                seen[told] += 1
                refused = told == 2
                self.assertEqual(behind(calls, [eq(a, b), compare(a, b)]), [-3, 2] if refused else [0, 0])
                if made < 64:
                    self.assertEqual(last(*calls, add(a, b)), -3 if refused else made)
        self.assertGreater(min(seen.values()), 100)


if __name__ == "__main__":
    unittest.main()

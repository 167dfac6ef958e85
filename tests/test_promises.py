"""The promises over the whole program: order, lines told twice, more lines, products and powers, what is possible."""

import itertools
import unittest

from calls import NAME, add, all_told, all_units, behind, compare, div, eq, is_refused, joined, known, last, mul
from calls import power, run, seven, unit
from chance import Chance
from unitformulas.uni import answers

NAMES = 4


def some_formulas(chance):
    """Calls that make names, known units, and products and powers of them."""
    calls = [NAME] * NAMES + [known(1), known(0, 1), known(-1, 2)]
    made = len(calls)
    while made < 22:
        a, b = chance.below(made), chance.below(made)
        call = chance.one_of([mul(a, b), div(a, b), power(a, chance.one_of([-1, 2, 3]))])
        if not is_refused(last(*calls, call)):
            calls.append(call)
            made += 1
    return calls


def some_lines(chance, calls, count):
    """Lines that can all be behind the calls."""
    lines = []
    while len(lines) < count:
        line = eq(chance.below(len(calls)), chance.below(len(calls)))
        if last(*calls, *lines, line) == 0:
            lines.append(line)
    return lines


def is_within(inner, outer):
    """Whether all units of one form are of the other."""
    if outer[0] == 0:
        return inner == outer
    return inner[0] % outer[0] == 0 and all((x - y) % outer[0] == 0 for x, y in zip(inner[1], outer[1]))


def product_of(call, units):
    """The exponents that follow for mul, div or pow from what is told of the formulas' units."""
    first = units[call[1]][1]
    if call[0] == 5:
        return tuple(call[2] * x for x in first)
    sign = 1 if call[0] == 3 else -1
    return tuple(x + sign * y for x, y in zip(first, units[call[2]][1]))


class Order(unittest.TestCase):
    def test_the_same_lines_in_any_order(self):
        start = [NAME, NAME, NAME, known(2), power(0, 2), power(1, 3), mul(4, 5), mul(0, 2), mul(1, 3), power(2, 2)]
        lines = [eq(6, 3), eq(7, 8), eq(9, 9), eq(7, 8), eq(8, 7)]
        told = all_told(start + lines)
        for order in itertools.permutations(lines):
            self.assertEqual(run(*start, *order)[10:], [0] * 5)
            self.assertEqual(all_told(start + list(order)), told)

    def test_lists_of_lines_in_another_order_and_twice(self):
        for seed in range(60):
            chance = Chance(seed)
            calls = some_formulas(chance)
            lines = some_lines(chance, calls, 5)
            told = all_units(calls + lines)
            turned = [eq(line[2], line[1]) for line in lines]
            for other in (lines[::-1], chance.shuffled(lines), chance.shuffled(lines + lines), turned, turned + lines):
                self.assertEqual(behind(calls, other), [0] * len(other))
                self.assertEqual(all_units(calls + other), told)

    def test_a_sum_is_the_line_of_eq(self):
        for seed in range(40):
            chance = Chance(100 + seed)
            calls = some_formulas(chance)
            lines = some_lines(chance, calls, 4)
            told = all_units(calls + lines)
            sums = [add(line[1], line[2]) for line in lines]
            self.assertEqual(all_units(calls + sums)[:len(told)], told)
            self.assertEqual(all_units(calls + sums)[len(told):], [told[line[1]] for line in lines])

    def test_all_orders_of_lines_that_cannot_all_be(self):
        # x y, y z and x z are m: two of them can be, in any order, and the third can't.
        start = [NAME, NAME, NAME, known(0, 0, 1), mul(0, 1), mul(1, 2), mul(0, 2)]
        for order in itertools.permutations([eq(4, 3), eq(5, 3), eq(3, 6)]):
            self.assertEqual(behind(start, order), [0, 0, -3])


class MoreLines(unittest.TestCase):
    def test_more_lines_never_make_more_possible(self):
        for seed in range(60):
            chance = Chance(200 + seed)
            calls = some_formulas(chance)
            lines = some_lines(chance, calls, 6)
            for count in range(6):
                before, after = all_units(calls + lines[:count]), all_units(calls + lines[:count + 1])
                for inner, outer in zip(after, before):
                    self.assertTrue(is_within(inner, outer), (inner, outer))

    def test_what_is_sure_stays_so(self):
        for seed in range(40):
            chance = Chance(300 + seed)
            calls = some_formulas(chance)
            lines = some_lines(chance, calls, 4)
            asked = [compare(chance.below(22), chance.below(22)) for tried in range(40)]
            for count in range(4):
                before, after = behind(calls + lines[:count], asked), behind(calls + lines[:count + 1], asked)
                for told, later in zip(before, after):
                    self.assertTrue(told == 1 or later == told, (told, later))

    def test_one_form_alone(self):
        # Where g isn't 0 the exponents are the least that there are, so two forms never say the same.
        for seed in range(60):
            chance = Chance(400 + seed)
            calls = some_formulas(chance)
            for g, exponents in all_units(calls + some_lines(chance, calls, 3)):
                self.assertEqual(len(exponents), 7)
                self.assertGreaterEqual(g, 0)
                if g > 0:
                    self.assertTrue(all(0 <= exponent < g for exponent in exponents))


class ProductsAndPowers(unittest.TestCase):
    def test_products_and_powers_of_units_that_are_sure(self):
        start = [NAME, NAME, known(2, -1), known(-1, 0, 3), eq(0, 2), eq(1, 3)]
        start += [mul(0, 1), div(0, 1), power(0, 3), power(1, -2), power(0, 0), mul(0, 3), div(2, 1)]
        units = [(1, -1, 3), (3, -1, -3), (6, -3, 0), (2, 0, -6), (), (1, -1, 3), (3, -1, -3)]
        told = behind(start, [unit(4 + k) for k in range(7)])
        self.assertEqual(told, [(0, seven(*exponents)) for exponents in units])

    def test_products_and_powers_behind_lines(self):
        found = 0
        for seed in range(60):
            chance = Chance(500 + seed)
            calls = some_formulas(chance)
            told = calls + some_lines(chance, calls, 5)
            units = all_units(told)
            for call, product in zip(calls, units):
                if call[0] in (3, 4, 5) and units[call[1]][0] == 0 and (call[0] == 5 or units[call[2]][0] == 0):
                    found += 1
                    self.assertEqual(product, (0, product_of(call, units)))
        self.assertGreater(found, 200)

    def test_powers_of_units_that_are_not_sure(self):
        for seed in range(60):
            chance = Chance(600 + seed)
            calls = some_formulas(chance)
            told = calls + some_lines(chance, calls, 3)
            for a, (g, exponents) in enumerate(all_units(told)):
                for k in (-2, -1, 0, 2, 3):
                    more = behind(told, [power(a, k), unit(len(calls))])
                    if more[0] != -2:
                        gap = abs(k) * g
                        raised = tuple(k * x % gap if gap else k * x for x in exponents)
                        self.assertEqual(more, [len(calls), (gap, raised)])


class JustWhatIsPossible(unittest.TestCase):
    """Two names and one base unit, with all ways of a range gone through one by one."""

    RANGE = range(-36, 37)

    def formula_calls(self, exponents, made):
        """Calls that make a formula of the names 0 and 1 and the base unit 2, where so many formulas were made."""
        return [power(k, exponents[k]) for k in range(3)] + [mul(made, made + 1), mul(made + 3, made + 2)]

    def test_units_of_two_names(self):
        for seed in range(60):
            chance = Chance(700 + seed)
            formulas = [tuple(chance.below(5) - 2 for place in range(3)) for k in range(5)]
            calls = [NAME, NAME, known(1)]
            numbers = []
            for exponents in formulas:
                calls += self.formula_calls(exponents, len(calls))
                numbers.append(len(calls) - 1)
            ways = list(itertools.product(self.RANGE, self.RANGE))
            for tried in range(3):
                a, b = chance.below(5), chance.below(5)
                left = [way for way in ways if self.value(formulas[a], way) == self.value(formulas[b], way)]
                line = eq(numbers[a], numbers[b])
                told = last(*calls, compare(numbers[a], numbers[b]))
                self.assertEqual(told, 2 if not left else 0 if len(left) == len(ways) else 1)
                calls.append(line)
                self.assertEqual(last(*calls), 0 if left else -3)
                ways = left or ways
                for number, exponents in zip(numbers, formulas):
                    self.assert_units(last(*calls, unit(number)), {self.value(exponents, way) for way in ways})

    def value(self, exponents, way):
        return exponents[0] * way[0] + exponents[1] * way[1] + exponents[2]

    def assert_units(self, told, values):
        """Near 0 each unit that is told is found, and each that is found is told."""
        g, (first, *others) = told
        self.assertEqual(others, [0] * 6)
        near = range(-4, 5)
        if g == 0:
            self.assertEqual(values, {first})
        else:
            self.assertEqual([k for k in near if k in values], [k for k in near if (k - first) % g == 0])


class NothingIsChangedOrKept(unittest.TestCase):
    def test_lists_handed_in(self):
        for seed in range(30):
            chance = Chance(800 + seed)
            calls = some_formulas(chance)
            numbers = joined(calls + some_lines(chance, calls, 3) + [unit(a) for a in range(22)])
            copy = list(numbers)
            told = answers(numbers)
            self.assertEqual(numbers, copy)
            self.assertEqual(answers(numbers), told)


if __name__ == "__main__":
    unittest.main()

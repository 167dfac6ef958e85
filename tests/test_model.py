"""Many lists of calls against the model, which keeps all lines and tells by minors what can be."""

import unittest

from calls import NAME, base, behind, compare, div, eq, is_refused, last, mul, power, run, unit
from chance import Chance, some_calls
from model import Model, are_units_of, can_be, determinant, fits, units_of


def line(*exponents):
    return list(exponents) + [0] * (13 - len(exponents))


def kind_of(call, answer):
    """The call with its refusal, with what test tells, or with which g unit tells; 0 else."""
    if is_refused(answer) or call[0] == 9:
        return (call[0], answer)
    return (call[0], min(answer[0], 2) if call[0] == 10 else 0)


class AgainstTheModel(unittest.TestCase):
    def test_short_lists(self):
        for seed in range(1500):
            calls, found = some_calls(seed, 16)
            self.assertEqual(run(*calls), found, calls)

    def test_long_lists(self):
        for seed in range(40):
            calls, found = some_calls(5000 + seed, 400)
            self.assertEqual(run(*calls), found, calls)

    def test_the_lists_hold_every_answer_often(self):
        seen = {}
        for seed in range(300):
            for call, answer in zip(*some_calls(seed, 40)):
                key = kind_of(call, answer)
                seen[key] = seen.get(key, 0) + 1
        wanted = [(0, 0), (1, 0), (2, 0), (2, -2), (3, 0), (3, -1), (3, -2), (4, 0), (4, -1), (5, 0), (5, -1), (5, -2)]
        wanted += [(6, 0), (6, -1), (6, -2), (6, -3), (7, 0), (7, -1), (7, -3), (8, 0), (8, -1), (8, -3)]
        wanted += [(9, 0), (9, 1), (9, 2), (9, -1), (10, 0), (10, 1), (10, 2), (10, -1), (11, 0), (12, 0), (12, -1)]
        for key in wanted:
            self.assertGreater(seen.get(key, 0), 10, key)


class OneWayThatFits(unittest.TestCase):
    """Lines that all hold in one way that is chosen first; g is of many sizes."""

    def some_units(self, chance):
        return [[chance.one_of([0, 0, 0, 0, 0, 1, -1]) for place in range(7)] for name in range(6)]

    def some_formulas(self, chance, units):
        """Names, formulas of their units, and from 12 on formulas that are pure numbers if the names have these."""
        calls = [NAME] * 6 + [base(*exponents) for exponents in units] + [div(k, 6 + k) for k in range(6)]
        while len(calls) < 64:
            a, b = 12 + chance.below(len(calls) - 12), 12 + chance.below(len(calls) - 12)
            call = chance.one_of([mul(a, b), mul(a, b), div(a, b), power(a, 2), power(a, -3)])
            if last(*calls, call) >= 0:
                calls.append(call)
        return calls

    def test_the_way_always_fits(self):
        largest = 0
        for seed in range(25):
            chance = Chance(seed)
            units = self.some_units(chance)
            calls = self.some_formulas(chance, units)
            model = Model()
            for call in calls:
                model.answer(call)
            for told in range(8):
                line = eq(12 + chance.below(52), 12 + chance.below(52))
                calls.append(line)
                self.assertEqual((last(*calls), model.answer(line)), (0, 0))
                self.assertEqual(behind(calls, [compare(k, 6 + k) for k in range(6)]),
                                 [model.compare(k, 6 + k) for k in range(6)])
                for name, (g, exponents) in enumerate(behind(calls, [unit(k) for k in range(6)])):
                    self.assertTrue(are_units_of(model.lines, model.formulas[name], (g, exponents)), calls)
                    expected = [exponent % g if g else exponent for exponent in units[name]]
                    self.assertEqual(list(exponents), expected)
                    largest = max(largest, g)
        self.assertGreater(largest, 100)


class TheModelItself(unittest.TestCase):
    def test_one_line(self):
        self.assertTrue(can_be([line(2, 0, 0, 0, 0, 0, 4)]))
        self.assertFalse(can_be([line(2, 0, 0, 0, 0, 0, 3)]))
        self.assertTrue(can_be([line(2, 3, 0, 0, 0, 0, 1)]))
        self.assertFalse(can_be([line(2, 4, 0, 0, 0, 0, 0, 1)]))

    def test_two_lines(self):
        self.assertTrue(can_be([line(1, -2), line(1, 0, -2)]))
        self.assertFalse(can_be([line(1, -2), line(1, 0, -2, 0, 0, 0, 1)]))
        self.assertTrue(can_be([line(1, -2), line(1, 0, -3, 0, 0, 0, 1)]))

    def test_a_line_that_follows(self):
        lines = [line(1, -2, 0, 0, 0, 0, 3)]
        self.assertTrue(fits(lines, line(-2, 4, 0, 0, 0, 0, -6)))
        self.assertFalse(fits(lines, line(-2, 4, 0, 0, 0, 0, -5)))
        self.assertTrue(fits(lines, line(-2, 5, 0, 0, 0, 0, -5)))
        self.assertTrue(fits([], line()))
        self.assertFalse(fits([], line(0, 0, 0, 0, 0, 0, 0, 1)))

    def test_units(self):
        lines = [line(1, -2, 0, 0, 0, 0, 3), line(0, 0, 1, 0, 0, 0, 0, -2)]
        self.assertEqual(units_of(lines, line(1)), (2, (1, 0, 0, 0, 0, 0, 0)))
        self.assertEqual(units_of(lines, line(0, 1)), (1, (0,) * 7))
        self.assertEqual(units_of(lines, line(0, 0, 3, 0, 0, 0, 1, 1)), (0, (1, 7, 0, 0, 0, 0, 0)))
        self.assertEqual(units_of([], line(4, 6, 0, 0, 0, 0, 5, -1)), (2, (1, 1, 0, 0, 0, 0, 0)))

    def test_determinants(self):
        self.assertEqual(determinant([]), 1)
        self.assertEqual(determinant([[0, 2], [3, 5]]), -6)
        self.assertEqual(determinant([[2, 4], [1, 2]]), 0)
        self.assertEqual(determinant([[2, 0, 1], [1, 3, -1], [0, 5, 4]]), 39)


if __name__ == "__main__":
    unittest.main()

"""Many lists of calls against the model, which keeps all lines and tells by minors what can be."""

import unittest

from calls import run
from chance import some_calls
from model import can_be


def line(*exponents):
    return list(exponents) + [0] * (13 - len(exponents))


class AgainstTheModel(unittest.TestCase):
    def test_short_lists(self):
        for seed in range(1500):
            calls, numbers = some_calls(seed, 16)
            self.assertEqual(run(*calls), numbers, calls)

    def test_long_lists(self):
        for seed in range(40):
            calls, numbers = some_calls(5000 + seed, 400)
            self.assertEqual(run(*calls), numbers, calls)

    def test_the_lists_hold_every_answer_often(self):
        seen = {}
        for seed in range(300):
            for call, number in zip(*some_calls(seed, 16)):
                key = (call[0], min(number, 0))
                seen[key] = seen.get(key, 0) + 1
        wanted = [(0, 0), (1, 0), (2, 0), (2, -2), (3, 0), (3, -1), (3, -2), (4, 0), (4, -1), (5, 0), (5, -1), (5, -2)]
        wanted += [(6, 0), (6, -1), (6, -2), (6, -3)]
        for key in wanted:
            self.assertGreater(seen.get(key, 0), 10, key)


class TheModelItself(unittest.TestCase):
    def test_one_line(self):
        self.assertTrue(can_be([line(2, 0, 0, 0, 0, 0, 4)]))
        self.assertFalse(can_be([line(2, 0, 0, 0, 0, 0, 3)]))
        self.assertTrue(can_be([line(2, 3, 0, 0, 0, 0, 1)]))
        self.assertFalse(can_be([line(2, 4, 0, 0, 0, 0, 0, 1)]))

    def test_two_lines(self):
        self.assertTrue(can_be([line(1, -2), line(1, 0, -2)]))
        self.assertFalse(can_be([line(1, -2), line(1, 0, -2, 0, 0, 0, 1)]))
        self.assertTrue(can_be([line(1, -2), line(1, 0, -3, 0, 0, 0, 1)]))


if __name__ == "__main__":
    unittest.main()

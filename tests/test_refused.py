"""What is refused changes nothing: the calls behind it answer as if it had not been."""

import unittest

from calls import GREATEST, GREATEST_SIGNED, LEAST_SIGNED, NAME, PURE, base, div, filled_to, known, mul, power
from calls import root, run
from chance import some_calls

START = [NAME, known(1), mul(0, 1), root(0, 2), power(0, 6), power(1, -6)]

# Together they ask for the number of formulas, that of names, the lines on x, and whether there are others.
BEHIND = [NAME, mul(6, 1), root(2, 2), root(0, 4), root(2, 3), mul(0, 9), root(7, 2)]
BEHIND += [NAME, NAME, mul(4, 0), power(0, 2)] + [PURE] * 60

REFUSED = [
    (base(), -2),
    (base(*[0] * 6), -2),
    (base(*[1] * 8), -2),
    (base(*[0] * 100), -2),
    (known(7), -2),
    (base(0, 0, 0, 0, 0, 0, LEAST_SIGNED), -2),
    (mul(6, 0), -1),
    (mul(0, GREATEST), -1),
    (mul(4, 0), -2),
    (mul(5, 5), -2),
    (div(6, 0), -1),
    (div(0, GREATEST), -1),
    (div(5, 1), -2),
    (power(6, 1), -1),
    (power(0, 7), -2),
    (power(1, GREATEST_SIGNED), -2),
    (power(1, LEAST_SIGNED), -2),
    (root(6, 2), -1),
    (root(GREATEST, 2), -1),
    (root(0, 0), -2),
    (root(0, 7), -2),
    (root(0, -2), -2),
    (root(1, 2), -3),
    (root(2, 2), -3),
    (root(2, 4), -3),
]


class RefusedCalls(unittest.TestCase):
    def test_each_refusal(self):
        start = run(*START)
        self.assertEqual(start, [0, 1, 2, 3, 4, 5])
        behind = run(*START, *BEHIND)[len(START):]
        for call, number in REFUSED:
            with self.subTest(call=call):
                self.assertEqual(run(*START, call, *BEHIND), start + [number] + behind)

    def test_all_refusals_twice(self):
        numbers = [number for call, number in REFUSED] * 2
        told = run(*START, *[call for call, number in REFUSED] * 2, *BEHIND)
        self.assertEqual(told, run(*START) + numbers + run(*START, *BEHIND)[len(START):])

    def test_the_seventh_name(self):
        start = [NAME] * 6
        behind = [mul(0, 5), root(6, 2), known(1), power(5, 6)]
        self.assertEqual(run(*start, NAME, root(0, 2), *behind), [0, 1, 2, 3, 4, 5, -2, -2, 6, -2, 7, 8])

    def test_the_65th_formula(self):
        for call in (NAME, PURE, mul(0, 1), div(0, 1), power(0, 2), root(0, 2)):
            self.assertEqual(run(*filled_to(64), call, mul(64, 0), mul(63, 0))[64:], [-2, -1, -2])

    def test_a_name_that_found_no_room_is_no_name(self):
        start = filled_to(64)
        self.assertEqual(run(*start, NAME, root(0, 2), root(1, 2), [0], *[NAME] * 7)[64:],
                         [-2, -2, -2, 0, 0, 1, 2, 3, 4, 5, -2])

    def test_a_refused_root_takes_no_name(self):
        self.assertEqual(run(known(1), *[root(0, 2)] * 9, *[NAME] * 7), [0] + [-3] * 9 + [1, 2, 3, 4, 5, 6, -2])

    def test_a_refused_root_leaves_no_line(self):
        # The refused roots can be in some of the base units: were that part kept, x could be less than it may be.
        start = [NAME, known(1), known(0, 1), mul(0, 1), mul(3, 2), root(0, 2)]
        behind = [root(0, 4), root(0, 3), root(3, 3), root(6, 2)]
        self.assertEqual(run(*start), [0, 1, 2, 3, 4, 5])
        for refused in (root(3, 2), root(4, 2), root(3, 4), root(4, 6), root(2, 2)):
            self.assertEqual(run(*start, refused, *behind)[6:], [-3] + run(*start, *behind)[6:])

    def test_lists_without_their_refused_calls(self):
        for seed in range(150):
            calls, numbers = some_calls(1000 + seed, 60)
            accepted = [call for call, number in zip(calls, numbers) if number >= 0]
            self.assertEqual(run(*accepted), [number for number in numbers if number >= 0])


if __name__ == "__main__":
    unittest.main()

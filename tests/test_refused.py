"""What is refused changes nothing: the calls behind it answer as if it had not been.

init is never refused; test and unit change nothing where they are not refused either.
"""

import unittest

from calls import BACK, GREATEST, GREATEST_SIGNED, KEEP, LEAST_SIGNED, NAME, PURE, add, all_told, base, behind
from calls import compare, div, eq, filled_to, is_refused, known, mul, power, root, run, unit
from chance import some_calls

START = [NAME, known(1), mul(0, 1), root(0, 2), power(0, 6), power(1, -6)]

# Together they ask for the number of formulas, that of names, the lines on x, whether there are others, and what
# is kept.
BEHIND = [NAME, mul(6, 1), root(2, 2), root(0, 4), root(2, 3), mul(0, 9), root(7, 2)]
BEHIND += [unit(a) for a in range(10)] + [compare(a, b) for a in range(10) for b in range(10)]
BEHIND += [NAME, NAME, mul(4, 0), power(0, 2)] + [PURE] * 60 + [KEEP, BACK, BACK, BACK]

REFUSED = [
    (base(), -2),
    (base(*[0] * 6), -2),
    (base(*[1] * 8), -2),
    (base(*[0] * 100), -2),
    (known(7), -2),
    (base(0, 0, 0, 0, 0, 0, LEAST_SIGNED), -2),
    (mul(6, 0), -1),
    (mul(0, GREATEST), -1),
    (mul(4, 0), -2),
    (mul(5, 5), -2),
    (div(6, 0), -1),
    (div(0, GREATEST), -1),
    (div(5, 1), -2),
    (power(6, 1), -1),
    (power(0, 7), -2),
    (power(1, GREATEST_SIGNED), -2),
    (power(1, LEAST_SIGNED), -2),
    (root(6, 2), -1),
    (root(GREATEST, 2), -1),
    (root(0, 0), -2),
    (root(0, 7), -2),
    (root(0, -2), -2),
    (root(1, 2), -3),
    (root(2, 2), -3),
    (root(2, 4), -3),
    (add(6, 0), -1),
    (add(0, GREATEST), -1),
    (add(GREATEST, GREATEST), -1),
    (add(0, 1), -3),
    (add(0, 2), -3),
    (add(5, 1), -3),
    (eq(6, 0), -1),
    (eq(0, GREATEST), -1),
    (eq(GREATEST, 6), -1),
    (eq(0, 1), -3),
    (eq(2, 0), -3),
    (eq(1, 5), -3),
    (compare(6, 0), -1),
    (compare(0, GREATEST), -1),
    (compare(GREATEST, GREATEST), -1),
    (unit(6), -1),
    (unit(GREATEST), -1),
    (BACK, -1),
]


class RefusedCalls(unittest.TestCase):
    def test_each_refusal(self):
        start = run(*START)
        self.assertEqual(start, [0, 1, 2, 3, 4, 5])
        told = behind(START, BEHIND)
        for call, number in REFUSED:
            with self.subTest(call=call):
                self.assertEqual(run(*START, call, *BEHIND), start + [number] + told)

    def test_all_refusals_twice(self):
        numbers = [number for call, number in REFUSED] * 2
        told = run(*START, *[call for call, number in REFUSED] * 2, *BEHIND)
        self.assertEqual(told, run(*START) + numbers + run(*START, *BEHIND)[len(START):])

    def test_the_seventh_name(self):
        start = [NAME] * 6
        more = [mul(0, 5), root(6, 2), known(1), power(5, 6)]
        self.assertEqual(run(*start, NAME, root(0, 2), *more), [0, 1, 2, 3, 4, 5, -2, -2, 6, -2, 7, 8])

    def test_the_65th_formula(self):
        start = filled_to(64)
        asked = [unit(0), unit(63), unit(64), compare(0, 1), mul(64, 0), mul(63, 0), KEEP, BACK, BACK]
        for call in (NAME, PURE, mul(0, 1), div(0, 1), power(0, 2), root(0, 2), add(0, 1), add(1, 0), add(1, 2)):
            self.assertEqual(behind(start, [call] + asked), [-2] + behind(start, asked))

    def test_the_ninth_keep(self):
        start = START + [KEEP] * 8
        self.assertEqual(behind(start, [KEEP] + BEHIND), [-2] + behind(start, BEHIND))
        self.assertEqual(behind(start, [KEEP] + [BACK] * 9), [-2, 7, 6, 5, 4, 3, 2, 1, 0, -1])

    def test_the_refusals_with_something_kept(self):
        start = [NAME, KEEP] + START[1:] + [KEEP]
        for call, number in REFUSED[:-1]:
            with self.subTest(call=call):
                self.assertEqual(behind(start, [call] + BEHIND), [number] + behind(start, BEHIND))
                self.assertEqual(all_told(start + [call, BACK, BACK]), all_told([NAME]))

    def test_a_name_that_found_no_room_is_no_name(self):
        start = filled_to(64)
        self.assertEqual(run(*start, NAME, root(0, 2), root(1, 2), [0], *[NAME] * 7)[64:],
                         [-2, -2, -2, 0, 0, 1, 2, 3, 4, 5, -2])

    def test_a_refused_root_takes_no_name(self):
        self.assertEqual(run(known(1), *[root(0, 2)] * 9, *[NAME] * 7), [0] + [-3] * 9 + [1, 2, 3, 4, 5, 6, -2])

    def test_a_refused_root_leaves_no_line(self):
        # The refused roots can be in some of the base units: were that part kept, x could be less than it may be.
        start = [NAME, known(1), known(0, 1), mul(0, 1), mul(3, 2), root(0, 2)]
        more = [root(0, 4), root(0, 3), root(3, 3), root(6, 2), unit(0), unit(3), compare(0, 1)]
        self.assertEqual(run(*start), [0, 1, 2, 3, 4, 5])
        for refused in (root(3, 2), root(4, 2), root(3, 4), root(4, 6), root(2, 2)):
            self.assertEqual(run(*start, refused, *more)[6:], [-3] + run(*start, *more)[6:])

    def test_a_refused_add_or_eq_leaves_no_line(self):
        # The refused lines can be in the first base unit and not in the second.
        start = [NAME, known(2, 1), known(4, 3), power(0, 2), NAME, mul(4, 1), div(4, 2)]
        for a, b in ((3, 1), (1, 3), (3, 2), (5, 4), (6, 4), (5, 6)):
            for call in (add(a, b), eq(a, b)):
                self.assertEqual(run(*start, call)[-1], -3)
                self.assertEqual(all_told(start + [call]), all_told(start))
                more = [eq(4, 3), unit(4), unit(5), root(4, 2), eq(0, 4), unit(0), NAME]
                self.assertEqual(behind(start, [call] + more), [-3] + behind(start, more))

    def test_lists_without_their_refused_calls(self):
        for seed in range(150):
            calls, found = some_calls(1000 + seed, 60)
            accepted = [call for call, answer in zip(calls, found) if not is_refused(answer)]
            self.assertEqual(run(*accepted), [answer for answer in found if not is_refused(answer)])

    def test_lists_without_what_is_only_asked(self):
        for seed in range(100):
            calls, found = some_calls(1500 + seed, 60)
            others = [call for call in calls if call[0] not in (9, 10)]
            self.assertEqual(run(*others), [answer for call, answer in zip(calls, found) if call[0] not in (9, 10)])


if __name__ == "__main__":
    unittest.main()

"""keep and back: names, formulas and lines are again as they were kept."""

import unittest

from calls import ANY, BACK, INIT, KEEP, NAME, PURE, add, all_told, behind, compare, count_made, div, eq
from calls import filled_to, is_refused, known, last, mul, power, root, run, seven, unit
from chance import some_calls

START = [NAME, known(1), mul(0, 1), power(0, 2)]

# What shows the number of formulas, that of names, and what lines say of later ones.
NEXT = [PURE, NAME, root(0, 2), eq(0, 1), unit(0), root(2, 2), NAME, NAME, NAME, NAME, NAME, NAME, mul(0, 9)]


class Edges(unittest.TestCase):
    def test_keep_counts_up_and_back_down(self):
        self.assertEqual(run(KEEP, KEEP, KEEP, BACK, KEEP, BACK, BACK, BACK), [1, 2, 3, 2, 3, 2, 1, 0])

    def test_the_8th_and_the_9th_keep(self):
        self.assertEqual(run(*[KEEP] * 10), [1, 2, 3, 4, 5, 6, 7, 8, -2, -2])
        self.assertEqual(run(*[KEEP] * 9, BACK, KEEP, KEEP)[8:], [-2, 7, 8, -2])
        self.assertEqual(run(*[KEEP] * 9, *[BACK] * 10)[8:], [-2, 7, 6, 5, 4, 3, 2, 1, 0, -1, -1])

    def test_back_with_nothing_kept(self):
        self.assertEqual(run(BACK), [-1])
        self.assertEqual(run(BACK, BACK, KEEP, BACK, BACK), [-1, -1, 1, 0, -1])
        self.assertEqual(run(*START, BACK), [0, 1, 2, 3, -1])
        self.assertEqual(run(KEEP, INIT, BACK), [1, 0, -1])
        self.assertEqual(run(KEEP, KEEP, BACK, BACK, BACK), [1, 2, 1, 0, -1])

    def test_init_leaves_nothing_kept(self):
        self.assertEqual(run(*[KEEP] * 8, INIT, BACK, KEEP, KEEP, BACK, BACK, BACK)[8:], [0, -1, 1, 2, 1, 0, -1])
        self.assertEqual(run(*[KEEP] * 8, INIT, *[KEEP] * 9)[8:], [0, 1, 2, 3, 4, 5, 6, 7, 8, -2])

    def test_keep_needs_no_room(self):
        self.assertEqual(behind(filled_to(64), [KEEP] * 9), [1, 2, 3, 4, 5, 6, 7, 8, -2])
        self.assertEqual(behind(filled_to(64), [KEEP, BACK, PURE, unit(63)]), [1, 0, -2, (0, seven())])

    def test_keep_changes_nothing(self):
        self.assertEqual(behind(START + [KEEP], NEXT), behind(START, NEXT))
        self.assertEqual(all_told(START + [eq(0, 1), KEEP, KEEP]), all_told(START + [eq(0, 1)]))

    def test_a_refused_keep_is_not_kept(self):
        # The ninth would have kept a second formula.
        calls = [NAME] + [KEEP] * 8 + [PURE, KEEP, PURE, BACK]
        self.assertEqual(behind(calls, [unit(0), unit(1)]), [ANY, -1])

    def test_a_refused_back_changes_nothing(self):
        self.assertEqual(behind(START + [eq(0, 1), BACK], NEXT), behind(START + [eq(0, 1)], NEXT))


class AsTheyWereKept(unittest.TestCase):
    def assert_as_kept(self, start, more):
        """Behind start, keep, more and back all is as behind start."""
        calls = start + [KEEP] + more + [BACK]
        self.assertEqual(last(*calls), 0)
        self.assertEqual(count_made(calls), count_made(start))
        self.assertEqual(all_told(calls), all_told(start))
        self.assertEqual(behind(calls, NEXT), behind(start, NEXT))

    def test_formulas(self):
        self.assert_as_kept(START, [PURE, mul(0, 2), div(0, 1), power(1, 2)])
        self.assertEqual(run(*START, KEEP, PURE, PURE, BACK, unit(4), PURE)[4:], [1, 4, 5, 0, -1, 4])

    def test_the_number_of_the_next_formula(self):
        for made in (2, 3, 63):
            calls = filled_to(made) + [KEEP] + [PURE] * (64 - made) + [PURE, BACK]
            self.assertEqual(behind(calls, [PURE, unit(made), unit(made + 1)]), [made, (0, seven()), -1])
        self.assertEqual(behind(filled_to(64) + [KEEP, BACK], [PURE, unit(63)]), [-2, (0, seven())])

    def test_names(self):
        self.assert_as_kept(START, [NAME, NAME])
        self.assert_as_kept(START, [NAME] * 6)
        self.assert_as_kept([NAME] * 6, [NAME, PURE])
        self.assertEqual(run(NAME, KEEP, *[NAME] * 6, BACK, *[NAME] * 6),
                         [0, 1, 1, 2, 3, 4, 5, -2, 0, 1, 2, 3, 4, 5, -2])

    def test_a_name_of_a_root(self):
        self.assert_as_kept(START, [root(0, 2), root(2, 3)])
        self.assert_as_kept(START + [root(0, 2)], [root(0, 3), eq(4, 1)])

    def test_the_next_name_is_new(self):
        # The second name was known behind keep; the one in its place behind back is not.
        calls = [NAME, known(1), KEEP, NAME, eq(2, 1), unit(2), BACK, NAME, unit(2), compare(2, 1), compare(2, 0)]
        self.assertEqual(run(*calls), [0, 1, 1, 2, 0, (0, seven(1)), 0, 2, ANY, 1, 1])
        self.assertEqual(run(NAME, NAME, KEEP, root(0, 5), BACK, NAME, unit(0), unit(2), compare(0, 2))[5:],
                         [2, ANY, ANY, 1])

    def test_lines(self):
        for line in (eq(0, 1), add(0, 1), root(0, 2), root(2, 3), eq(3, 0), add(2, 3)):
            self.assertGreaterEqual(last(*START, line), 0)
            self.assert_as_kept(START, [line])
        self.assertEqual(run(*START, KEEP, eq(0, 1), unit(0), BACK, unit(0), compare(0, 1))[4:],
                         [1, 0, (0, seven(1)), 0, ANY, 1])

    def test_lines_that_were_kept_hold_still(self):
        self.assert_as_kept(START + [eq(0, 1)], [NAME, eq(0, 4), root(3, 2)])
        calls = START + [NAME, eq(0, 1), KEEP, eq(4, 2), BACK]
        self.assertEqual(behind(calls, [unit(0), compare(0, 1), unit(4), root(0, 2)]), [(0, seven(1)), 0, ANY, -3])

    def test_lines_that_were_refused_can_be_again(self):
        calls = START + [KEEP, eq(0, 1), eq(2, 1), BACK]
        self.assertEqual(run(*calls, eq(2, 1), unit(0))[4:], [1, 0, -3, 0, 0, (0, seven())])

    def test_nothing_as_kept(self):
        self.assert_as_kept([PURE], [NAME, known(1), eq(1, 2)])
        self.assertEqual(run(KEEP, *START, eq(0, 1), BACK, unit(0), NAME, unit(0)), [1, 0, 1, 2, 3, 0, 0, -1, 0, ANY])

    def test_all_together(self):
        more = [NAME, eq(0, 4), root(2, 2), mul(0, 5), add(0, 1), known(3, 1), eq(5, 1), unit(0)]
        self.assert_as_kept(START, more)
        self.assert_as_kept(START + [root(0, 3)], more)


class OnTopOfOneAnother(unittest.TestCase):
    def test_each_back_goes_down_by_one(self):
        parts = [[NAME, known(1)], [mul(0, 1), NAME], [eq(0, 3)], [eq(3, 1)], [PURE, root(2, 2)]]
        calls = []
        stages = []
        for part in parts:
            calls = calls + part
            stages.append(all_told(calls))
            calls = calls + [KEEP]
        for count in range(len(parts), 0, -1):
            calls = calls + [BACK]
            self.assertEqual(last(*calls), count - 1)
            self.assertEqual(all_told(calls), stages[count - 1])
        self.assertEqual(last(*calls, BACK), -1)

    def test_the_same_kept_twice(self):
        calls = START + [KEEP, KEEP, eq(0, 1), BACK, eq(2, 1), unit(0), BACK, unit(0)]
        self.assertEqual(behind(START, calls[4:]), [1, 2, 0, 1, 0, (0, seven()), 0, ANY])

    def test_what_is_done_behind_back_does_not_change_what_is_kept_still(self):
        calls = START + [KEEP, PURE, KEEP, PURE, BACK, NAME, eq(5, 1), mul(5, 5), BACK]
        self.assertEqual(behind(START, calls[4:]), [1, 4, 2, 5, 1, 5, 0, 6, 0])
        self.assertEqual(all_told(calls), all_told(START))
        self.assertEqual(behind(calls, NEXT), behind(START, NEXT))

    def test_back_other_calls_keep_and_back_again(self):
        calls = START + [KEEP, eq(0, 1), KEEP, PURE, BACK, root(3, 2), KEEP, NAME, BACK]
        self.assertEqual(all_told(calls), all_told(START + [eq(0, 1), root(3, 2)]))
        self.assertEqual(all_told(calls + [BACK]), all_told(START))
        self.assertEqual(last(*calls, BACK, BACK), -1)

    def test_eight_on_top_of_one_another(self):
        calls = []
        for made in range(8):
            calls += [known(made - 3), KEEP]
        calls += [NAME, PURE]
        for made in range(8, 0, -1):
            calls += [BACK]
            told = behind(calls, [unit(a) for a in range(9)])
            self.assertEqual(told, [(0, seven(a - 3)) for a in range(made)] + [-1] * (9 - made))


class Many(unittest.TestCase):
    def test_lists_in_the_midst_of_others(self):
        # Whatever is done between a keep and its back, all is as before it.
        for seed in range(120):
            start = [call for call in some_calls(7000 + seed, 25)[0] if call[0] not in (0, 11, 12)]
            more = [call for call in some_calls(8000 + seed, 60)[0] if call[0] not in (0, 11, 12)]
            calls = start + [KEEP] + more + [BACK]
            self.assertEqual(last(*calls), 0)
            self.assertEqual(all_told(calls), all_told(start))
            self.assertEqual(behind(calls, more), behind(start, more))
            self.assertTrue(any(not is_refused(told) for told in behind(start, more)))


if __name__ == "__main__":
    unittest.main()

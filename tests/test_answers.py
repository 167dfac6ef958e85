"""The form of what goes in and comes out, init, and that nothing is kept or changed."""

import contextlib
import io
import unittest

from calls import ANY, BACK, GREATEST, INIT, KEEP, LEAST_SIGNED, NAME, PURE, add, base, behind, compare, div, eq
from calls import filled_to, joined, known, mul, power, root, run, seven, unit
from unitformulas.uni import answers

EVERY_CALL = [INIT, NAME, known(2, -4), mul(0, 1), div(2, 0), power(3, -1), root(1, 2), root(5, 2), root(2, 3)]
EVERY_CALL += [unit(0), KEEP, compare(0, 1), add(0, 1), eq(6, 1), unit(0), compare(0, 1), eq(1, 5), BACK, unit(0), BACK]
EVERY_ANSWER = [0, 0, 1, 2, 3, 4, 5, -3, 6]
EVERY_ANSWER += [(3, seven(1, 1)), 1, 2, -3, 0, (0, seven(4, -8)), 2, -3, 0, (3, seven(1, 1)), -1]


class WholeAnswers(unittest.TestCase):
    def test_init(self):
        self.assertEqual(answers([0]), [3, 0, 0, 0])

    def test_name(self):
        self.assertEqual(answers([1]), [3, 0, 0, 0])
        self.assertEqual(answers([1, 1]), [3, 0, 0, 0, 3, 1, 0, 0])

    def test_base(self):
        self.assertEqual(answers([2, 7, 1, -2, 0, 0, 0, 0, 6]), [3, 0, 0, 0])
        self.assertEqual(answers([1, 2, 7, 1, -2, 0, 0, 0, 0, 6]), [3, 0, 0, 0, 3, 1, 0, 0])

    def test_mul(self):
        self.assertEqual(answers([1, 1, 3, 0, 1]), [3, 0, 0, 0, 3, 1, 0, 0, 3, 2, 0, 0])

    def test_div(self):
        self.assertEqual(answers([1, 1, 4, 0, 1]), [3, 0, 0, 0, 3, 1, 0, 0, 3, 2, 0, 0])

    def test_pow(self):
        self.assertEqual(answers([1, 5, 0, 3]), [3, 0, 0, 0, 3, 1, 0, 0])

    def test_root(self):
        self.assertEqual(answers([1, 6, 0, 3]), [3, 0, 0, 0, 3, 1, 0, 0])

    def test_add(self):
        self.assertEqual(answers([1, 2, 7, 1, 0, 0, 0, 0, 0, 0, 7, 0, 1]), [3, 0, 0, 0, 3, 1, 0, 0, 3, 2, 0, 0])

    def test_eq(self):
        self.assertEqual(answers([1, 1, 8, 0, 1]), [3, 0, 0, 0, 3, 1, 0, 0, 3, 0, 0, 0])

    def test_test(self):
        start, told = [1, 1, 2, 7, 1, 0, 0, 0, 0, 0, 0, 3, 1, 2], [3, 0, 0, 0, 3, 1, 0, 0, 3, 2, 0, 0, 3, 3, 0, 0]
        self.assertEqual(answers(start + [9, 0, 0]), told + [3, 0, 0, 0])
        self.assertEqual(answers(start + [9, 0, 1]), told + [3, 1, 0, 0])
        self.assertEqual(answers(start + [9, 1, 3]), told + [3, 2, 0, 0])

    def test_unit(self):
        self.assertEqual(answers([2, 7, 1, -2, 3, 0, 0, 0, -6, 10, 0]),
                         [3, 0, 0, 0, 10, 0, 0, 7, 1, -2, 3, 0, 0, 0, -6])
        self.assertEqual(answers([1, 10, 0]), [3, 0, 0, 0, 10, 1, 0, 7, 0, 0, 0, 0, 0, 0, 0])
        self.assertEqual(answers([1, 5, 0, 2, 10, 1]), [3, 0, 0, 0, 3, 1, 0, 0, 10, 2, 0, 7, 0, 0, 0, 0, 0, 0, 0])
        self.assertEqual(answers([1, 5, 0, 2, 2, 7, 1, 0, 0, 0, 0, 0, -3, 3, 1, 2, 10, 3])[16:],
                         [10, 2, 0, 7, 1, 0, 0, 0, 0, 0, 1])

    def test_keep_and_back(self):
        self.assertEqual(answers([11]), [3, 1, 0, 0])
        self.assertEqual(answers([11, 11, 1, 12, 12]), [3, 1, 0, 0, 3, 2, 0, 0, 3, 0, 0, 0, 3, 1, 0, 0, 3, 0, 0, 0])

    def test_refusals(self):
        self.assertEqual(answers([3, 0, 0]), [3, -1, 0, 0])
        for calls in ([7, 0, 0], [8, 0, 0], [9, 0, 0], [10, 0], [12]):
            self.assertEqual(answers(calls), [3, -1, 0, 0])
        two = [2, 7, 1, 0, 0, 0, 0, 0, 0, 2, 7, 2, 0, 0, 0, 0, 0, 0]
        for calls in ([7, 0, 1], [8, 0, 1]):
            self.assertEqual(answers(two + calls), [3, 0, 0, 0, 3, 1, 0, 0, 3, -3, 0, 0])
        self.assertEqual(answers([11] * 9)[32:], [3, -2, 0, 0])
        self.assertEqual(answers([2, 0]), [3, -2, 0, 0])
        self.assertEqual(answers([2, 7, 1, 0, 0, 0, 0, 0, 0, 6, 0, 2]), [3, 0, 0, 0, 3, -3, 0, 0])

    def test_all_the_calls_one_behind_another(self):
        self.assertEqual(run(*EVERY_CALL), EVERY_ANSWER)

    def test_a_refused_row_is_passed_over_whole(self):
        for count in (0, 1, 6, 8, 100):
            self.assertEqual(answers([2, count] + [1] * count + [1]), [3, -2, 0, 0, 3, 0, 0, 0])

    def test_the_first_call_of_a_list_needs_no_init(self):
        self.assertEqual(run(NAME, NAME), run(INIT, NAME, NAME)[1:])

    def test_formulas_are_numbered_from_0_whatever_makes_them(self):
        calls = [NAME, PURE, mul(0, 0), div(0, 0), power(0, 0), root(0, 1), add(0, 5), eq(0, 0), KEEP, NAME]
        self.assertEqual(run(*calls), [0, 1, 2, 3, 4, 5, 6, 0, 1, 7])


class Init(unittest.TestCase):
    def test_init_always_answers_0(self):
        self.assertEqual(run(INIT, INIT, NAME, INIT, PURE, NAME, INIT), [0, 0, 0, 0, 0, 1, 0])

    def test_formulas_are_gone(self):
        calls = [NAME, NAME, INIT, mul(0, 0), div(0, 0), power(0, 1), root(0, 1), NAME, mul(0, 0), mul(0, 2)]
        self.assertEqual(run(*calls), [0, 1, 0, -1, -1, -1, -1, 0, 1, -1])

    def test_names_are_gone(self):
        self.assertEqual(run(*[NAME] * 7, INIT, *[NAME] * 7), [0, 1, 2, 3, 4, 5, -2] + [0] + [0, 1, 2, 3, 4, 5, -2])

    def test_room_for_all_formulas_is_there_again(self):
        first = list(range(64)) + [-2]
        self.assertEqual(run(*filled_to(65), INIT, *filled_to(65)), first + [0] + first)

    def test_lines_are_gone(self):
        square_of_x = [NAME, known(1), mul(0, 1), root(0, 2)]
        square_of_product = [NAME, known(1), mul(0, 1), root(2, 2)]
        self.assertEqual(run(*square_of_x, root(2, 2)), [0, 1, 2, 3, -3])
        self.assertEqual(run(*square_of_x, INIT, *square_of_product), [0, 1, 2, 3, 0, 0, 1, 2, 3])
        self.assertEqual(run(*square_of_x, INIT, *square_of_product, root(0, 2))[-1], -3)

    def test_lines_on_names_that_are_made_after_init_are_new(self):
        known_name = [known(1), root(0, 1)]
        self.assertEqual(run(*known_name, INIT, NAME, NAME, root(1, 2), root(0, 2)), [0, 1, 0, 0, 1, 2, 3])
        known_names = [known(1), NAME, eq(0, 1), NAME, add(2, 0)]
        self.assertEqual(run(*known_names, INIT, NAME, NAME, unit(0), unit(1), compare(0, 1)),
                         [0, 1, 0, 2, 3, 0, 0, 1, ANY, ANY, 1])

    def test_all_that_is_asked_of_formulas_is_refused(self):
        start = [NAME, known(1), eq(0, 1), KEEP, INIT]
        self.assertEqual(behind(start, [unit(0), compare(0, 0), eq(0, 0), add(0, 0)]), [-1, -1, -1, -1])

    def test_nothing_is_kept_behind_init(self):
        self.assertEqual(run(NAME, KEEP, KEEP, INIT, BACK, NAME, BACK, unit(0)), [0, 1, 2, 0, -1, 0, -1, ANY])
        self.assertEqual(run(*[KEEP] * 8, INIT, *[KEEP] * 9)[8:], [0, 1, 2, 3, 4, 5, 6, 7, 8, -2])

    def test_a_list_in_the_midst_of_others_is_as_at_the_beginning(self):
        before = [NAME, known(1, -2), KEEP, root(0, 2), eq(2, 1), add(0, 1), KEEP, *[NAME] * 6]
        self.assertEqual(behind(before, EVERY_CALL), EVERY_ANSWER)
        self.assertEqual(behind(EVERY_CALL, EVERY_CALL), EVERY_ANSWER)


class NothingElse(unittest.TestCase):
    def test_what_is_handed_in_is_as_it_was(self):
        calls = joined(EVERY_CALL + [base(*[7] * 100), mul(GREATEST, 0), power(0, LEAST_SIGNED), eq(0, GREATEST)])
        copy = list(calls)
        answers(calls)
        self.assertEqual(calls, copy)

    def test_what_is_handed_in_is_not_changed_for_a_while_either(self):
        class Fixed(list):
            def refuse(self, *values):
                raise AssertionError("the list handed in was changed")

            __setitem__ = __delitem__ = __iadd__ = __imul__ = refuse
            append = extend = insert = pop = remove = reverse = sort = clear = refuse

        calls = joined(EVERY_CALL)
        self.assertEqual(answers(Fixed(calls)), answers(calls))

    def test_the_same_list_gives_the_same(self):
        calls = joined(EVERY_CALL)
        first = answers(calls)
        self.assertEqual(answers(calls), first)
        answers([1, 2, 7, 1, 0, 0, 0, 0, 0, 0, 6, 1, 2, 11, 8, 0, 1, 10, 0])
        self.assertEqual(answers(calls), first)

    def test_nothing_is_kept_from_one_time_to_the_next(self):
        self.assertEqual(run(*filled_to(64)), list(range(64)))
        self.assertEqual(run(mul(0, 0)), [-1])
        self.assertEqual(run(*filled_to(64)), list(range(64)))
        self.assertEqual(run(known(1), root(0, 1)), [0, 1])
        self.assertEqual(run(NAME, root(0, 2)), [0, 1])
        self.assertEqual(run(NAME, known(1), eq(0, 1), *[KEEP] * 8), [0, 1, 0, 1, 2, 3, 4, 5, 6, 7, 8])
        self.assertEqual(run(NAME, unit(0), BACK, KEEP), [0, ANY, -1, 1])

    def test_what_is_given_back_is_a_new_list(self):
        calls = joined(EVERY_CALL)
        first = answers(calls)
        copy = list(first)
        first.clear()
        self.assertEqual(answers(calls), copy)

    def test_whole_numbers_are_int(self):
        told = answers(joined(EVERY_CALL))
        self.assertIs(type(told), list)
        self.assertEqual({type(number) for number in told}, {int})

    def test_nothing_is_printed(self):
        out, err = io.StringIO(), io.StringIO()
        with contextlib.redirect_stdout(out), contextlib.redirect_stderr(err):
            answers(joined(EVERY_CALL))
        self.assertEqual((out.getvalue(), err.getvalue()), ("", ""))

    def test_the_longest_lists(self):
        self.assertEqual(run(*[NAME] * 400), list(range(6)) + [-2] * 394)
        self.assertEqual(run(*[base(*[0] * 100)] * 154), [-2] * 154)
        self.assertEqual(run(NAME, *[mul(0, 0)] * 399), list(range(64)) + [-2] * 336)
        self.assertEqual(run(*[INIT] * 400), [0] * 400)
        self.assertEqual(run(known(1), *[root(0, 2)] * 399), [0] + [-3] * 399)
        self.assertEqual(run(NAME, NAME, *[add(0, 1)] * 398), list(range(64)) + [-2] * 336)
        self.assertEqual(run(NAME, NAME, *[eq(0, 1), compare(0, 1)] * 199), [0, 1] + [0] * 398)
        self.assertEqual(run(NAME, *[unit(0)] * 399), [0] + [ANY] * 399)
        self.assertEqual(run(NAME, *[KEEP] * 199, *[BACK] * 200),
                         [0, 1, 2, 3, 4, 5, 6, 7, 8] + [-2] * 191 + [7, 6, 5, 4, 3, 2, 1, 0] + [-1] * 192)

    def test_400_calls_with_many_rows_of_100_numbers(self):
        calls = [NAME, known(2), power(0, 2), eq(2, 1)]
        calls += [base(*[k % 7] * 100) for k in range(148)] + [unit(0)] * 100 + [KEEP, BACK] * 74
        self.assertEqual((len(calls), len(joined(calls))), (400, 15460))
        self.assertEqual(run(*calls), [0, 1, 2, 0] + [-2] * 148 + [(0, seven(1))] * 100 + [1, 0] * 74)

    def test_all_the_calls_20_times(self):
        self.assertEqual(run(*EVERY_CALL * 20), EVERY_ANSWER * 20)
        self.assertEqual(len(EVERY_CALL * 20), 400)


if __name__ == "__main__":
    unittest.main()

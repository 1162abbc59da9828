import contextlib
import io
import unittest

import bladesets.halls
from tests.asking import NAMES, ask, numbers_of, stock

LINE = stock(100, 10, 100, 75, 39, 60, 5) + (
    "; match 0 1 2; match 0 1 2; set 0; spare 0 1; third 0 1; needs 0 1 4; off 0 1 4"
    "; exchange 0 1 3; balanced 0; look 1; part 0; weigh 1 8; scrap 2; set 0; blade 9 9"
    "; plan 0; least 0; follow 0; blade 0 90; plan 0; least 0; follow 0; add 0 7; free 0; ship 0; sums; state"
)


class Form(unittest.TestCase):
    def test_how_many_then_these(self):
        calls = [0, 100, 10, 1, 0, 100, 1, 0, 75, 1, 0, 39, 4, 0, 1, 2, 6, 0, 1, 2, 7, 0, 9, 0, 1, 8, 0, 8, 0]
        self.assertEqual(
            bladesets.halls.answers(calls),
            [1, 0, 1, 0, 1, 1, 1, 2, 4, 8, 0, 2, 6, 1, 0, 4, 3, 0, 1, 2, 1, -33, 1, 294, 1, -2],
        )

    def test_each_call_by_its_number(self):
        calls = [0, 50, 10]
        calls += [1, 2, 30, 1, 2, 30, 1, 2, 30, 1, 2, 10]
        calls += [2, 3, 20, 4, 3, 0, 1, 5, 0, 1, 3, 6, 2, 1, 0, 7, 0, 9, 0, 1, 10, 0, 2, 8, 0, 3, 3]
        self.assertEqual(
            bladesets.halls.answers(calls),
            [1, 0, 1, 0, 1, 1, 1, 2, 1, 3]
            + [1, 10, 4, 1, 1, 0, 0, 1, 100, 1, 0, 4, 3, 2, 1, 0, 2, 3, 1, 2, 3, 1, 1, 90, 1, 20],
        )

    def test_each_later_call_by_its_number(self):
        calls = [0, 50, 10]
        calls += [1, 2, 30, 1, 2, 30, 1, 2, 30, 1, 2, 10]
        calls += [12, 2, 13, 2, 14, 2, 11, 0, 1, 3, 15, 0, 4, 16, 0, 18, 2, 19, 3, 17, 0, 20, 21]
        self.assertEqual(
            bladesets.halls.answers(calls),
            [1, 0, 1, 0, 1, 1, 1, 2, 1, 3]
            + [4, 1, 0, 1, 2, 1, 0, 1, 1, 1, 30, 1, 34, 2, 1, 16, 2, 1, 1, 5, 10, 2, 20, 1, 0]
            + [1, 94, 2, 100, 24, 5, 4, 3, 0, 50, 10],
        )

    def test_the_later_calls_that_are_refused(self):
        calls = [0, 0, 1, 11, 0, 0, 0, 12, 4, 13, 4, 14, 4, 15, 0, 1, 16, 0, 17, 0, 18, 4, 19, 0, 12, 0, 18, 0]
        self.assertEqual(
            bladesets.halls.answers(calls),
            [1, 0, 1, -2, 1, -22, 1, -22, 1, -22, 1, -2, 1, -2, 1, -2, 1, -22, 1, -2, 1, 0, 1, 0],
        )

    def test_a_refusal_is_its_number_alone(self):
        self.assertEqual(
            bladesets.halls.answers([0, 0, 1, 4, 0, 1, 2, 7, 0, 9, 0, 1, 10, 0, 0]),
            [1, 0, 1, -2, 1, -2, 1, -2, 1, -2],
        )

    def test_the_longest_lines(self):
        self.assertEqual(bladesets.halls.answers([0, 1, 1] * 200), [1, 0] * 200)
        self.assertEqual(bladesets.halls.answers([4, 0, 0, 0] * 200), [1, -11] * 200)
        self.assertEqual(bladesets.halls.answers([20] * 200), [1, -11] * 200)

    def test_200_calls_with_long_answers(self):
        calls = numbers_of(stock(0, 1, *[5] * 20)) + [12, 0, 18, 0] * 89 + [21]
        plan = [19, 6] + list(range(18))
        free = [21, 20] + list(range(20))
        given = bladesets.halls.answers(calls)
        self.assertEqual(given[42:], (plan + free) * 89 + [5, 20, 0, 0, 0, 1])

    def test_close_to_800_numbers(self):
        calls = numbers_of(stock(0, 1, 5, 5, 5, 5)) + [6, 0, 1, 2, 11, 0, 1, 3] + [11, 0, 3, 1, 11, 0, 1, 3] * 96 + [21]
        self.assertGreater(len(calls), 790)
        given = bladesets.halls.answers(calls)
        self.assertEqual(given[10:], [1, 0, 1, 5] + [1, 5, 1, 5] * 96 + [5, 4, 0, 1, 0, 1])

    def test_a_list_of_whole_numbers(self):
        given = bladesets.halls.answers(numbers_of(LINE))
        self.assertIs(type(given), list)
        self.assertEqual({type(number) for number in given}, {int})

    def test_the_line_asks_every_call(self):
        self.assertEqual({call.split()[0] for call in LINE.split(";")}, set(NAMES))

    def test_no_number_below_0_but_a_refusal(self):
        for answer in ask(LINE):
            self.assertTrue(len(answer) == 1 or min(answer) >= 0)


class KeepsNothing(unittest.TestCase):
    def test_what_is_handed_in_is_not_changed(self):
        calls = numbers_of(LINE)
        before = list(calls)
        bladesets.halls.answers(calls)
        self.assertEqual(calls, before)

    def test_not_for_a_while_either(self):
        class Watched(list):
            def refuse(self, *given):
                raise AssertionError("the list handed in is changed")

            __setitem__ = __delitem__ = __iadd__ = __imul__ = refuse
            append = extend = insert = pop = remove = clear = sort = reverse = refuse

        calls = numbers_of(LINE)
        self.assertEqual(bladesets.halls.answers(Watched(calls)), bladesets.halls.answers(calls))

    def test_asked_twice_it_is_answered_alike(self):
        calls = numbers_of(LINE)
        first = bladesets.halls.answers(calls)
        kept = list(first)
        self.assertEqual(bladesets.halls.answers(calls), kept)
        self.assertEqual(first, kept)

    def test_an_answer_that_is_changed_changes_no_other(self):
        calls = numbers_of(LINE)
        first = bladesets.halls.answers(calls)
        kept = list(first)
        first.clear()
        self.assertEqual(bladesets.halls.answers(calls), kept)

    def test_each_list_is_asked_of_a_new_object(self):
        bladesets.halls.answers(numbers_of(LINE))
        self.assertEqual(bladesets.halls.answers(numbers_of("set 0; blade 0 1")), [1, -11, 1, -11])

    def test_nothing_is_printed(self):
        printed = io.StringIO()
        with contextlib.redirect_stdout(printed), contextlib.redirect_stderr(printed):
            bladesets.halls.answers(numbers_of(LINE))
        self.assertEqual(printed.getvalue(), "")


if __name__ == "__main__":
    unittest.main()

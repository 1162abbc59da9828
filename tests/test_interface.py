import contextlib
import io
import unittest

import bladesets.halls
from tests.asking import ask, numbers_of, stock

LINE = stock(100, 10, 100, 75, 39, 60, 5) + (
    "; match 0 1 2; match 0 1 2; set 0; spare 0 1; third 0 1; needs 0 1 4; off 0 1 4"
    "; part 0; weigh 1 8; scrap 2; set 0; blade 9 9"
)


class Form(unittest.TestCase):
    def test_how_many_then_these(self):
        calls = [0, 100, 10, 1, 0, 100, 1, 0, 75, 1, 0, 39, 4, 0, 1, 2, 6, 0, 1, 2, 7, 0, 9, 0, 1, 8, 0, 8, 0]
        self.assertEqual(
            bladesets.halls.answers(calls),
            [1, 0, 1, 0, 1, 1, 1, 2, 4, 8, 0, 2, 6, 1, 0, 4, 3, 0, 1, 2, 1, -33, 1, 294, 1, -2],
        )

    def test_each_call_by_its_number(self):
        calls = [0, 50, 10]
        calls += [1, 2, 30, 1, 2, 30, 1, 2, 30, 1, 2, 10]
        calls += [2, 3, 20, 4, 3, 0, 1, 5, 0, 1, 3, 6, 2, 1, 0, 7, 0, 9, 0, 1, 10, 0, 2, 8, 0, 3, 3]
        self.assertEqual(
            bladesets.halls.answers(calls),
            [1, 0, 1, 0, 1, 1, 1, 2, 1, 3]
            + [1, 10, 4, 1, 1, 0, 0, 1, 100, 1, 0, 4, 3, 2, 1, 0, 2, 3, 1, 2, 3, 1, 1, 90, 1, 20],
        )

    def test_a_refusal_is_its_number_alone(self):
        self.assertEqual(
            bladesets.halls.answers([0, 0, 1, 4, 0, 1, 2, 7, 0, 9, 0, 1, 10, 0, 0]),
            [1, 0, 1, -2, 1, -2, 1, -2, 1, -2],
        )

    def test_the_longest_lines(self):
        self.assertEqual(bladesets.halls.answers([0, 1, 1] * 200), [1, 0] * 200)
        self.assertEqual(bladesets.halls.answers([4, 0, 0, 0] * 200), [1, -11] * 200)

    def test_a_list_of_whole_numbers(self):
        given = bladesets.halls.answers(numbers_of(LINE))
        self.assertIs(type(given), list)
        self.assertEqual({type(number) for number in given}, {int})

    def test_no_number_below_0_but_a_refusal(self):
        for answer in ask(LINE):
            self.assertTrue(len(answer) == 1 or min(answer) >= 0)


class KeepsNothing(unittest.TestCase):
    def test_what_is_handed_in_is_not_changed(self):
        calls = numbers_of(LINE)
        before = list(calls)
        bladesets.halls.answers(calls)
        self.assertEqual(calls, before)

    def test_not_for_a_while_either(self):
        class Watched(list):
            def refuse(self, *given):
                raise AssertionError("the list handed in is changed")

            __setitem__ = __delitem__ = __iadd__ = __imul__ = refuse
            append = extend = insert = pop = remove = clear = sort = reverse = refuse

        calls = numbers_of(LINE)
        self.assertEqual(bladesets.halls.answers(Watched(calls)), bladesets.halls.answers(calls))

    def test_asked_twice_it_is_answered_alike(self):
        calls = numbers_of(LINE)
        first = bladesets.halls.answers(calls)
        kept = list(first)
        self.assertEqual(bladesets.halls.answers(calls), kept)
        self.assertEqual(first, kept)

    def test_an_answer_that_is_changed_changes_no_other(self):
        calls = numbers_of(LINE)
        first = bladesets.halls.answers(calls)
        kept = list(first)
        first.clear()
        self.assertEqual(bladesets.halls.answers(calls), kept)

    def test_each_list_is_asked_of_a_new_object(self):
        bladesets.halls.answers(numbers_of(LINE))
        self.assertEqual(bladesets.halls.answers(numbers_of("set 0; blade 0 1")), [1, -11, 1, -11])

    def test_nothing_is_printed(self):
        printed = io.StringIO()
        with contextlib.redirect_stdout(printed), contextlib.redirect_stderr(printed):
            bladesets.halls.answers(numbers_of(LINE))
        self.assertEqual(printed.getvalue(), "")


if __name__ == "__main__":
    unittest.main()

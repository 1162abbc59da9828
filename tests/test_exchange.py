import unittest

from tests.asking import GREATEST, added, ask, changes_nothing, last, pulls, stock

# Set 0 is 0, 1 and 2, which pull 100, 95 and 99; 3 pulls 80.
SET = stock(60, 10, 100, 75, 39, 80) + "; match 0 1 2"

# Set 0 is 0, 1 and 2, set 1 is 3, 4 and 5; 6 is free, 7 is gone, 8 is of another kind, 9 pulls far more.
SEVERAL = stock(20, 1, *[50] * 8) + "; blade 1 50; blade 0 71; match 0 1 2; match 3 4 5; scrap 7"


class Exchange(unittest.TestCase):
    def test_answers_what_i_pulled(self):
        self.assertEqual(last(SET, "exchange 0 0 3"), [100])
        self.assertEqual(last(SET, "exchange 0 1 3"), [95])
        self.assertEqual(last(SET, "exchange 0 2 3"), [99])

    def test_x_stands_in_the_place_of_i(self):
        for i, trio in ((0, [3, 3, 1, 2]), (1, [3, 0, 3, 2]), (2, [3, 0, 1, 3])):
            self.assertEqual(last(SET, f"exchange 0 {i} 3; set 0"), trio)
        told = stock(0, 1, *[5] * 6) + "; match 4 0 2"
        self.assertEqual(last(told, "exchange 0 0 5; set 0"), [3, 4, 5, 2])
        self.assertEqual(last(told, "exchange 0 0 5; exchange 0 4 0; set 0"), [3, 0, 5, 2])

    def test_what_they_need_is_added_to_the_three(self):
        self.assertEqual(added(SET + "; exchange 0 1 3", 0, 1, 2, 3), [0, 20, 60, 20])
        self.assertEqual(pulls(SET + "; exchange 0 1 3", 0, 2, 3), [100, 99, 100])
        self.assertEqual(last(SET, "exchange 0 1 3; needs 0 2 3"), [0, 0, 0, 0])

    def test_a_spare_that_pulls_more_than_all(self):
        base = stock(20, 10, 50, 50, 41, 75) + "; match 0 1 2"
        self.assertEqual(last(base, "exchange 0 0 3"), [-62])
        self.assertEqual(last(base, "weigh 3 70; exchange 0 0 3"), [50])
        self.assertEqual(added(base + "; weigh 3 70; exchange 0 0 3", 0, 1, 2, 3), [0, 20, 20, 0])

    def test_i_is_free_and_keeps_what_was_added(self):
        base = SET + "; exchange 0 1 3"
        self.assertEqual(last(base, "look 1"), [75, 0, 20, 0, 0])
        self.assertEqual(last(base, "free 0"), [1, 1])
        self.assertEqual(last(base, "scrap 1"), [95])

    def test_x_is_free_no_more(self):
        base = SET + "; exchange 0 1 3"
        self.assertEqual(last(base, "look 3"), [80, 0, 20, 1, 0])
        self.assertEqual(last(base, "scrap 3"), [-16])
        self.assertEqual(last(base, "exchange 0 0 3"), [-16])

    def test_the_set_keeps_its_number(self):
        base = SEVERAL + "; part 0; exchange 1 4 6"
        self.assertEqual(last(base, "set 1"), [3, 3, 6, 5])
        self.assertEqual(last(base, "set 0"), [-2])
        self.assertEqual(last(base, "look 6"), [50, 0, 0, 2, 0])
        self.assertEqual(last(base, "state"), [10, 1, 1, 20, 1])
        self.assertEqual(last(base, "match 0 1 2"), [0])

    def test_other_sets_stay(self):
        base = SEVERAL + "; exchange 0 1 6"
        self.assertEqual(last(base, "set 1"), [3, 3, 4, 5])
        self.assertEqual(last(base, "look 4"), [50, 0, 0, 2, 0])
        self.assertEqual(last(SEVERAL, "exchange 0 1 6; exchange 1 3 1; set 1"), [3, 1, 4, 5])

    def test_there_and_back(self):
        self.assertEqual(ask(SET, "exchange 0 1 3; exchange 0 3 1; set 0")[-3:], [[95], [100], [3, 0, 1, 2]])

    def test_a_set_that_is_not_even_is_evened(self):
        base = stock(30, 1, 50, 50, 50, 50) + "; match 0 1 2; add 0 7"
        self.assertEqual(last(base, "exchange 0 1 3"), [50])
        self.assertEqual(pulls(base + "; exchange 0 1 3", 0, 1, 2, 3), [57, 50, 57, 57])
        self.assertEqual(pulls(base + "; exchange 0 0 3", 0, 1, 2, 3), [57, 50, 50, 50])

    def test_just_as_much_as_may_be_added(self):
        for most, unit, moment, answer in (
            (20, 10, 30, [50]), (20, 10, 21, [50]), (20, 10, 20, [-62]), (19, 10, 30, [-62]), (19, 10, 31, [50]),
            (29, 10, 20, [-62]), (30, 10, 20, [50]), (20, 10, 79, [50]), (20, 10, 80, [-62]),
            (0, 10, 41, [50]), (0, 10, 40, [-62]), (0, 10, 59, [50]), (0, 10, 60, [-62]),
        ):
            base = stock(most, unit, 50, 50, 50, moment) + "; match 0 1 2"
            self.assertEqual(last(base, "exchange 0 1 3"), answer, (most, unit, moment))

    def test_at_once_not_with_what_was_added_before(self):
        base = stock(10, 10, 20, 20, 10, 30) + "; match 0 1 2"
        self.assertEqual(added(base + "; exchange 0 0 3", 1, 2, 3), [10, 20, 0])

    def test_no_such_set(self):
        self.assertEqual(last("start 0 1; exchange 0 0 0"), [-2])
        self.assertEqual(last(SEVERAL, "exchange 2 0 6"), [-2])
        self.assertEqual(last(SEVERAL, f"exchange {GREATEST} 0 6"), [-2])
        self.assertEqual(last(SEVERAL, "part 0; exchange 0 0 6"), [-2])

    def test_i_is_not_in_it(self):
        for i in (3, 6, 7, 8, 10, GREATEST):
            self.assertEqual(last(SEVERAL, f"exchange 0 {i} 6"), [-22])

    def test_there_is_no_blade_x(self):
        self.assertEqual(last(SEVERAL, "exchange 0 0 10"), [-22])
        self.assertEqual(last(SEVERAL, f"exchange 0 0 {GREATEST}"), [-22])
        self.assertEqual(last(SEVERAL, "blade 0 50; exchange 0 0 10"), [50])

    def test_x_is_not_free_or_of_another_kind(self):
        for x in (0, 1, 2, 3, 7, 8):
            self.assertEqual(last(SEVERAL, f"exchange 0 0 {x}"), [-16], x)
        self.assertEqual(last(SEVERAL, "exchange 0 0 6"), [50])
        self.assertEqual(last(SEVERAL, "part 1; exchange 0 0 3"), [50])

    def test_the_first_named_is_answered(self):
        self.assertEqual(last(SEVERAL, "exchange 2 9 10"), [-2])
        self.assertEqual(last(SEVERAL, "exchange 2 0 7"), [-2])
        self.assertEqual(last(SEVERAL, "exchange 0 3 10"), [-22])
        for x in (1, 3, 7, 8, 9):
            self.assertEqual(last(SEVERAL, f"exchange 0 3 {x}"), [-22], x)
        self.assertEqual(last(SEVERAL, "exchange 0 0 9"), [-62])
        self.assertEqual(last(SEVERAL, "scrap 9; exchange 0 0 9"), [-16])
        self.assertEqual(last(SEVERAL, "blade 1 99; exchange 0 0 10"), [-16])

    def test_refused_changes_nothing(self):
        for refused in ("2 0 6", "0 3 6", "0 0 10", "0 0 1", "0 0 3", "0 0 7", "0 0 8", "0 0 9"):
            self.assertTrue(changes_nothing(10, SEVERAL, "exchange " + refused), refused)
        self.assertTrue(changes_nothing(4, SET + "; weigh 3 29", "exchange 0 0 3"))


if __name__ == "__main__":
    unittest.main()

import unittest

from bladesets.replies import reply_to
from bladesets.works import Works
from tests.asking import GREATEST, NAMES, ask, changes_nothing, last, stock

# Set 0 is 0, 1 and 2, which pull 100, 95 and 99; 3 is free.
SET = stock(60, 10, 100, 75, 39, 80) + "; match 0 1 2"

# Set 0 needs a unit since 0 pulls 10 more.
UNEVEN = stock(60, 10, 50, 50, 50) + "; match 0 1 2; add 0 10"


class Balanced(unittest.TestCase):
    def test_just_matched(self):
        self.assertEqual(last(SET, "balanced 0"), [1, 21])
        self.assertEqual(last(stock(0, 1, 8, 8, 8), "match 0 1 2; balanced 0"), [1, 0])

    def test_just_followed_and_exchanged(self):
        self.assertEqual(last(stock(60, 10, 100, 75, 39), "follow 0; balanced 0"), [1, 21])
        self.assertEqual(last(SET, "exchange 0 1 3; balanced 0"), [1, 1])

    def test_a_difference_of_just_a_unit(self):
        base = stock(60, 10, 50, 50, 50) + "; match 0 1 2"
        self.assertEqual(last(base, "add 0 9; balanced 0"), [1, 81])
        self.assertEqual(last(base, "add 0 10; balanced 0"), [0, 100])
        self.assertEqual(last(base, "add 0 10; add 1 10; balanced 0"), [0, 100])
        self.assertEqual(last(base, "add 0 10; add 1 10; add 2 1; balanced 0"), [1, 81])

    def test_the_farthest_off_that_calls_lead_to(self):
        # A set begins less than a unit apart, and no blade is given more than most then.
        base = stock(10000, 1000, 100000, 99001, 99001) + "; match 0 1 2; add 0 10000"
        self.assertEqual(last(base, "balanced 0"), [0, 10999 ** 2])

    def test_may_be_greater_than_other_numbers(self):
        works = Works()
        works.begin(0, 1)
        for moment in (100000, 1, 1):
            works.take_in(0, moment)
        works.trios[0] = [0, 1, 2]
        self.assertEqual(reply_to(works, NAMES.index("balanced"), [0]), [0, 9999800001])
        self.assertGreater(9999800001, GREATEST)

    def test_no_such_set(self):
        self.assertEqual(last("start 0 1; balanced 0"), [-2])
        self.assertEqual(last(SET, "balanced 1"), [-2])
        self.assertEqual(last(SET, f"balanced {GREATEST}"), [-2])
        self.assertEqual(last(SET, "part 0; balanced 0"), [-2])
        self.assertEqual(last(SET, "ship 0; balanced 0"), [-2])

    def test_changes_nothing(self):
        self.assertTrue(changes_nothing(4, SET, "balanced 1"))
        self.assertEqual(ask(UNEVEN, "balanced 0; balanced 0; sums; set 0")[-4:], [
            [0, 100], [0, 100], [150, 10], [3, 0, 1, 2],
        ])


class Ship(unittest.TestCase):
    def test_answers_what_they_pull_together(self):
        self.assertEqual(last(SET, "ship 0"), [294])
        self.assertEqual(last(stock(0, 1, 8, 8, 8), "match 0 1 2; ship 0"), [24])

    def test_its_blades_are_gone(self):
        shipped = SET + "; ship 0"
        self.assertEqual(ask(shipped, "look 0; look 1; look 2; look 3")[-4:], [
            [100, 0, 0, 0, 1], [75, 0, 20, 0, 1], [39, 0, 60, 0, 1], [80, 0, 0, 0, 0],
        ])
        self.assertEqual(last(shipped, "free 0"), [1, 3])
        for call in ("weigh 0 5", "scrap 1", "add 2 1", "match 3 0 1"):
            self.assertEqual(last(shipped, call), [-16], call)

    def test_it_is_no_set_any_more(self):
        shipped = SET + "; ship 0"
        for call in ("set 0", "part 0", "ship 0", "balanced 0", "spare 0 0", "exchange 0 0 3"):
            self.assertEqual(last(shipped, call), [-2], call)

    def test_sums_and_state(self):
        self.assertEqual(ask(SET, "ship 0; sums; state")[-2:], [[294, 80], [4, 3, 0, 60, 10]])

    def test_its_number_is_free_again(self):
        base = stock(0, 1, *[5] * 9) + "; match 0 1 2; match 3 4 5; ship 0"
        self.assertEqual(ask(base, "match 8 7 6; set 0; set 1; look 8")[-4:], [
            [0], [3, 8, 7, 6], [3, 3, 4, 5], [5, 0, 0, 1, 0],
        ])
        self.assertEqual(last(base, "set 1"), [3, 3, 4, 5])

    def test_while_they_need_some(self):
        self.assertEqual(last(UNEVEN, "ship 0"), [-13])
        self.assertEqual(last(UNEVEN, "add 1 1; add 2 1; ship 0"), [162])
        self.assertEqual(last(UNEVEN, "add 1 1; ship 0"), [-13])
        self.assertEqual(last(UNEVEN, "part 0; match 0 1 2; ship 0"), [180])

    def test_no_such_set(self):
        self.assertEqual(last("start 0 1; ship 0"), [-2])
        self.assertEqual(last(SET, "ship 1"), [-2])
        self.assertEqual(last(SET, f"ship {GREATEST}"), [-2])
        self.assertEqual(last(SET, "part 0; ship 0"), [-2])

    def test_refused_changes_nothing(self):
        self.assertTrue(changes_nothing(3, UNEVEN, "ship 0"))
        self.assertTrue(changes_nothing(3, UNEVEN, "ship 1"))
        self.assertTrue(changes_nothing(4, SET, "ship 1"))


if __name__ == "__main__":
    unittest.main()

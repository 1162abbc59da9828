import unittest

from tests.asking import GREATEST, added, ask, changes_nothing, last, pulls, stock

# 0 to 6 pull 10, 70, 40, 30, 60, 20 and 50.
SEVEN = stock(100, 1, 10, 70, 40, 30, 60, 20, 50)

# The plan's first three need 20 at most, its second three 21.
LATER = stock(20, 1, 90, 80, 70, 60, 50, 39)
# And the other way round.
EARLIER = stock(20, 1, 90, 80, 69, 60, 50, 40)


class Plan(unittest.TestCase):
    def test_the_greatest_first_in_threes(self):
        self.assertEqual(last(SEVEN, "plan 0"), [2, 1, 4, 6, 2, 3, 5])

    def test_one_or_two_may_be_left(self):
        moments = (10, 70, 40, 30, 60, 20)
        for number, expected in enumerate((
            [0], [0], [0], [1, 1, 2, 0], [1, 1, 2, 3], [1, 1, 4, 2], [2, 1, 4, 2, 3, 5, 0],
        )):
            self.assertEqual(last(stock(0, 1, *moments[:number]), "plan 0"), expected, number)

    def test_of_like_ones_the_lesser_number_first(self):
        self.assertEqual(last(stock(0, 1, 5, 5, 5, 5, 5, 5, 5), "plan 0"), [2, 0, 1, 2, 3, 4, 5])
        self.assertEqual(last(stock(0, 1, 5, 7, 5, 7, 5, 7, 5), "plan 0"), [2, 1, 3, 5, 0, 2, 4])
        self.assertEqual(last(stock(0, 1, 5, 7, 5, 5), "plan 0"), [1, 1, 0, 2])

    def test_what_was_added_counts(self):
        base = stock(9, 1, 5, 5, 5, 5)
        self.assertEqual(last(base, "add 3 1; plan 0"), [1, 3, 0, 1])
        self.assertEqual(last(base, "add 3 1; add 2 2; plan 0"), [1, 2, 3, 0])
        self.assertEqual(last(stock(9, 1, 6, 5, 5, 5), "add 3 1; plan 0"), [1, 0, 3, 1])
        self.assertEqual(last(stock(9, 1, 5, 8, 8, 7), "match 0 1 2; part 0; plan 0"), [1, 0, 1, 2])

    def test_only_free_ones_of_the_kind(self):
        base = "start 0 1" + "; blade 1 5; blade 3 6" * 8 + "; match 1 3 5; scrap 7; scrap 15"
        self.assertEqual(last(base, "plan 3"), [1, 9, 11, 13])
        self.assertEqual(last(base, "plan 1"), [2, 0, 2, 4, 6, 8, 10])
        self.assertEqual(last(base, "plan 0"), [0])
        self.assertEqual(last(base, "part 0; plan 3"), [2, 1, 3, 5, 9, 11, 13])
        self.assertEqual(last(base, "ship 0; plan 3"), [1, 9, 11, 13])

    def test_it_may_have_threes_that_may_not_be_sets(self):
        self.assertEqual(last(stock(0, 1, 1, 100000, 50), "plan 0"), [1, 1, 2, 0])

    def test_20_blades(self):
        self.assertEqual(last(stock(0, 1, *range(1, 21)), "plan 0"), [6] + list(range(19, 1, -1)))

    def test_kind_up_to_3(self):
        base = stock(0, 1, 5, 5, 5, kind=3)
        self.assertEqual(last(base, "plan 3"), [1, 0, 1, 2])
        self.assertEqual(last(base, "plan 4"), [-22])
        self.assertEqual(last(base, f"plan {GREATEST}"), [-22])

    def test_changes_nothing(self):
        self.assertTrue(changes_nothing(7, SEVEN, "plan 4"))
        self.assertEqual(ask(SEVEN, "plan 0; plan 0; free 0")[-3:], [
            [2, 1, 4, 6, 2, 3, 5], [2, 1, 4, 6, 2, 3, 5], [7, 0, 1, 2, 3, 4, 5, 6],
        ])


class Least(unittest.TestCase):
    def test_what_the_plan_takes(self):
        self.assertEqual(last(SEVEN, "least 0"), [60])
        self.assertEqual(last(SEVEN, "scrap 1; least 0"), [60])
        self.assertEqual(last(SEVEN, "scrap 6; least 0"), [70])

    def test_as_moments_not_as_units(self):
        self.assertEqual(last(stock(0, 10, 50, 41, 25), "least 0"), [34])
        self.assertEqual(last(stock(0, 1000, 50, 41, 25), "least 0"), [34])

    def test_up_to_six_blades(self):
        moments = (10, 70, 40, 30, 60, 20)
        for number, expected in enumerate((0, 0, 0, 90, 70, 40, 70)):
            self.assertEqual(last(stock(0, 1, *moments[:number]), "least 0"), [expected], number)

    def test_alike(self):
        self.assertEqual(last(stock(0, 1, *[8] * 6), "least 0"), [0])
        self.assertEqual(last(stock(0, 1, *[8] * 5, 7), "least 0"), [1])

    def test_what_was_added_counts(self):
        base = stock(9, 1, 5, 5, 5, 5)
        self.assertEqual(last(base, "add 3 2; least 0"), [4])
        self.assertEqual(last(base, "add 3 2; add 0 2; least 0"), [2])

    def test_greatest(self):
        self.assertEqual(last(stock(0, 1, 100000, 1, 1), "least 0"), [199998])

    def test_kind_up_to_3(self):
        base = stock(0, 1, 9, 5, 5, kind=3)
        self.assertEqual(last(base, "least 3"), [8])
        self.assertEqual(last(base, "least 0"), [0])
        self.assertEqual(last(base, "least 4"), [-22])
        self.assertEqual(last(base, f"least {GREATEST}"), [-22])

    def test_changes_nothing(self):
        self.assertTrue(changes_nothing(7, SEVEN, "least 4"))
        self.assertEqual(ask(SEVEN, "least 0; least 0; sums")[-3:], [[60], [60], [280, 0]])


class Follow(unittest.TestCase):
    def test_makes_sets_of_the_plan(self):
        self.assertEqual(ask(SEVEN, "follow 0; set 0; set 1; set 2")[-4:], [[2], [3, 1, 4, 6], [3, 2, 3, 5], [-2]])
        self.assertEqual(last(SEVEN, "follow 0; free 0"), [1, 0])
        self.assertEqual(last(SEVEN, "follow 0; state"), [7, 0, 2, 100, 1])

    def test_adds_what_each_set_needs(self):
        self.assertEqual(added(SEVEN + "; follow 0", *range(7)), [0, 0, 0, 10, 10, 20, 20])
        self.assertEqual(ask(SEVEN, "follow 0; balanced 0; balanced 1")[-2:], [[1, 0], [1, 0]])
        units = stock(40, 10, 50, 41, 39, 25, 20, 1)
        self.assertEqual(pulls(units + "; follow 0", *range(6)), [50, 41, 49, 25, 20, 21])

    def test_up_to_six_blades(self):
        moments = (10, 70, 40, 30, 60, 20)
        for number, expected in enumerate((0, 0, 0, 1, 1, 1, 2)):
            line = stock(100, 1, *moments[:number]) + "; follow 0"
            self.assertEqual(last(line), [expected], number)
            self.assertEqual(last(line, "state"), [number, 0, expected, 100, 1])
            self.assertEqual(last(line, "free 0")[0], number - 3 * expected)
            self.assertEqual(last(line, "plan 0"), [0])

    def test_of_like_ones_the_lesser_number_first(self):
        base = stock(9, 1, 5, 7, 5, 7, 5, 7, 5) + "; follow 0"
        self.assertEqual(ask(base, "set 0; set 1; free 0")[-3:], [[3, 1, 3, 5], [3, 0, 2, 4], [1, 6]])

    def test_numbered_by_the_least_that_is_free(self):
        base = stock(0, 1, *[5] * 18) + "; match 0 1 2; match 3 4 5; match 6 7 8; match 9 10 11"
        parted = base + "; part 2; part 0; follow 0"
        self.assertEqual(last(parted), [4])
        self.assertEqual(ask(parted, "; ".join(f"set {s}" for s in range(7)))[-7:], [
            [3, 0, 1, 2], [3, 3, 4, 5], [3, 6, 7, 8], [3, 9, 10, 11], [3, 12, 13, 14], [3, 15, 16, 17], [-2],
        ])
        self.assertEqual(ask(base, "ship 1; follow 0; set 1; set 4")[-3:], [[2], [3, 12, 13, 14], [3, 15, 16, 17]])
        self.assertEqual(last(base, "ship 1; follow 0; look 14"), [5, 0, 0, 2, 0])

    def test_only_the_kind(self):
        base = "start 0 1" + "; blade 1 5; blade 2 6" * 3
        self.assertEqual(ask(base, "follow 2; set 0; free 1")[-3:], [[1], [3, 1, 3, 5], [3, 0, 2, 4]])
        self.assertEqual(ask(base, "follow 2; follow 1; set 1; follow 0")[-3:], [[1], [3, 0, 2, 4], [0]])

    def test_a_three_that_may_not_be_a_set(self):
        self.assertEqual(last(LATER, "follow 0"), [-62])
        self.assertEqual(last(LATER, "weigh 5 40; follow 0"), [2])
        self.assertEqual(last(EARLIER, "follow 0"), [-62])
        self.assertEqual(last(EARLIER, "weigh 2 70; follow 0"), [2])

    def test_those_left_over_do_not_matter(self):
        self.assertEqual(last(stock(0, 1, 50, 50, 50, 3, 1), "follow 0"), [1])
        self.assertEqual(last(stock(0, 1, 50, 3), "follow 0"), [0])

    def test_just_as_much_as_may_be_added(self):
        for most, unit, moment, answer in (
            (20, 10, 30, 1), (20, 10, 21, 1), (20, 10, 20, -62), (19, 10, 30, -62), (19, 10, 31, 1), (29, 10, 20, -62),
            (0, 10, 41, 1), (0, 10, 40, -62), (0, 1, 50, 1), (0, 1, 49, -62),
        ):
            base = stock(most, unit, 50, 50, moment)
            self.assertEqual(last(base, "follow 0"), [answer], (most, unit, moment))

    def test_kind_up_to_3(self):
        base = stock(0, 1, 5, 5, 5, kind=3)
        self.assertEqual(last(base, "follow 3"), [1])
        self.assertEqual(last(base, "follow 4"), [-22])
        self.assertEqual(last(base, f"follow {GREATEST}"), [-22])

    def test_refused_changes_nothing(self):
        for base in (LATER, EARLIER):
            self.assertTrue(changes_nothing(6, base, "follow 0"))
            self.assertTrue(changes_nothing(6, base, "follow 4"))
        self.assertTrue(changes_nothing(9, LATER + "; blade 1 5; blade 1 5; blade 1 5; match 6 7 8", "follow 0"))
        self.assertEqual(ask(LATER, "follow 0; sums; state")[-2:], [[389, 0], [6, 0, 0, 20, 1]])


if __name__ == "__main__":
    unittest.main()

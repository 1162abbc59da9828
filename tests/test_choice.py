import unittest

from tests.asking import GREATEST, ask, changes_nothing, last, stock


class Third(unittest.TestCase):
    def test_the_one_with_which_they_need_fewest(self):
        base = stock(0, 10, 100, 80, 20, 90, 200)
        self.assertEqual(last(base, "third 0 1"), [3, 3])
        self.assertEqual(last(base, "third 1 0"), [3, 3])
        self.assertEqual(last(base, "third 1 2"), [3, 8])

    def test_the_first_of_several(self):
        self.assertEqual(last(stock(0, 10, 100, 100, 50, 95, 91, 100), "third 0 1"), [3, 0])
        self.assertEqual(last(stock(0, 1, 5, 5, 5, 5), "third 2 3"), [0, 0])
        self.assertEqual(last(stock(0, 1, 5, 5, 5, 5), "third 0 2"), [1, 0])

    def test_one_below_and_one_above_that_need_alike(self):
        self.assertEqual(last(stock(0, 1, 10, 10, 8, 11), "third 0 1"), [2, 2])
        self.assertEqual(last(stock(0, 1, 10, 10, 11, 8), "third 0 1"), [2, 2])

    def test_one_that_pulls_more_than_both(self):
        self.assertEqual(last(stock(0, 1, 10, 10, 1, 12), "third 0 1"), [3, 4])

    def test_never_one_of_the_two(self):
        self.assertEqual(last(stock(0, 1, 10, 10, 90), "third 0 1"), [2, 160])
        self.assertEqual(last(stock(0, 1, 90, 10, 10), "third 1 2"), [0, 160])

    def test_it_may_need_more_than_may_be_added(self):
        self.assertEqual(last(stock(0, 1, 10, 10, 90), "third 0 1; match 0 1 2"), [-62])

    def test_the_two_need_not_be_free(self):
        base = stock(0, 1, 5, 5, 5, 9, 7) + "; match 0 1 2"
        self.assertEqual(last(base, "third 0 1"), [4, 4])
        self.assertEqual(last(base, "scrap 3; third 3 0"), [4, 6])

    def test_only_free_ones_of_their_kind(self):
        base = stock(0, 1, 5, 5, 5, 5, 5, 5, 8) + "; blade 1 5; match 2 3 4; scrap 5"
        self.assertEqual(last(base, "third 0 1"), [6, 6])
        self.assertEqual(last(base, "part 0; third 0 1"), [2, 0])

    def test_there_is_no_other(self):
        self.assertEqual(last(stock(0, 1, 5, 5), "third 0 1"), [-33])
        base = stock(0, 1, 5, 5, 5, 5, 5, 5) + "; blade 1 5; match 2 3 4; scrap 5"
        self.assertEqual(last(base, "third 0 1"), [-33])
        self.assertEqual(last(base, "blade 0 5; third 0 1"), [7, 0])

    def test_no_such_blade(self):
        base = stock(0, 1, 5, 5, 5)
        for pair in ("0 3", "3 0", f"0 {GREATEST}", f"{GREATEST} 0", "3 3"):
            self.assertEqual(last(base, "third " + pair), [-2])

    def test_the_same_or_not_of_one_kind(self):
        base = stock(0, 1, 5, 5, 5) + "; blade 1 5"
        self.assertEqual(last(base, "third 0 0"), [-22])
        self.assertEqual(last(base, "third 0 3"), [-22])
        self.assertEqual(last(base, "third 3 0"), [-22])

    def test_the_first_named_is_answered(self):
        base = "start 0 1; blade 0 5; blade 1 5"
        self.assertEqual(last(base, "third 2 2"), [-2])
        self.assertEqual(last(base, "third 0 2"), [-2])
        self.assertEqual(last(base, "third 0 0"), [-22])
        self.assertEqual(last(base, "third 0 1"), [-22])

    def test_changes_nothing(self):
        base = stock(9, 1, 5, 6, 7) + "; blade 1 5"
        for refused in ("third 0 4", "third 0 0", "third 0 3"):
            self.assertTrue(changes_nothing(4, base, refused))
        self.assertTrue(changes_nothing(3, base + "; scrap 2", "third 0 1"))
        self.assertEqual(ask(base, "third 0 1; third 0 1; scrap 2")[-3:], [[2, 3], [2, 3], [7]])


class Spare(unittest.TestCase):
    def test_the_one_that_makes_them_need_fewest(self):
        base = stock(100, 10, 100, 100, 100, 70, 90, 60) + "; match 0 1 2"
        for i in range(3):
            self.assertEqual(last(base, f"spare 0 {i}"), [4, 1])

    def test_what_was_added_stays_on_those_that_stay(self):
        base = stock(100, 10, 100, 75, 35, 80) + "; match 0 1 2"
        self.assertEqual(last(base, "spare 0 0"), [3, 1])
        self.assertEqual(last(base, "spare 0 1"), [3, 2])
        self.assertEqual(last(base, "weigh 3 85; spare 0 1"), [3, 1])

    def test_one_that_pulls_more_than_all(self):
        self.assertEqual(last(stock(0, 10, 50, 50, 50, 75), "match 0 1 2; spare 0 1"), [3, 4])
        self.assertEqual(last(stock(0, 10, 50, 50, 50, 20, 60), "match 0 1 2; spare 0 1"), [4, 2])

    def test_the_first_of_several(self):
        base = stock(0, 1, 5, 5, 5, 4, 9, 4, 4) + "; match 0 1 2"
        self.assertEqual(last(base, "spare 0 2"), [3, 1])
        self.assertEqual(last(stock(0, 1, 9, 5, 5, 5, 5), "match 1 2 3; weigh 0 5; spare 0 1"), [0, 0])
        self.assertEqual(last(stock(0, 1, 10, 10, 10, 11, 8), "match 0 1 2; spare 0 1"), [3, 2])
        self.assertEqual(last(stock(0, 1, 10, 10, 10, 8, 11), "match 0 1 2; spare 0 1"), [3, 2])

    def test_only_free_ones_of_its_kind(self):
        base = stock(0, 1, *[5] * 7, 9) + "; blade 1 5; match 0 1 2; match 3 4 5; scrap 6"
        self.assertEqual(last(base, "spare 0 1"), [7, 8])
        self.assertEqual(last(base, "spare 1 4"), [7, 8])
        self.assertEqual(last(base, "part 1; spare 0 1"), [3, 0])

    def test_there_is_none(self):
        base = stock(0, 1, *[5] * 7) + "; blade 1 5; match 0 1 2; match 3 4 5; scrap 6"
        self.assertEqual(last(base, "spare 0 1"), [-33])
        self.assertEqual(last(base, "blade 0 5; spare 0 1"), [8, 0])

    def test_no_such_set(self):
        base = stock(0, 1, 5, 5, 5, 5) + "; match 0 1 2"
        self.assertEqual(last(base, "spare 1 0"), [-2])
        self.assertEqual(last(base, f"spare {GREATEST} 0"), [-2])
        self.assertEqual(last(base, "part 0; spare 0 0"), [-2])

    def test_not_in_it(self):
        base = stock(0, 1, *[5] * 7) + "; match 0 1 2; match 3 4 5"
        for i in (3, 6, 7, GREATEST):
            self.assertEqual(last(base, f"spare 0 {i}"), [-22])
        self.assertEqual(last(base, "spare 1 3"), [6, 0])

    def test_the_first_named_is_answered(self):
        base = stock(0, 1, 5, 5, 5) + "; match 0 1 2"
        self.assertEqual(last(base, "spare 1 9"), [-2])
        self.assertEqual(last(base, "spare 0 3"), [-22])
        self.assertEqual(last(base, "spare 0 0"), [-33])

    def test_changes_nothing(self):
        base = stock(9, 1, 5, 6, 7) + "; match 0 1 2"
        for refused in ("spare 1 0", "spare 0 3", "spare 0 0"):
            self.assertTrue(changes_nothing(3, base, refused))
        self.assertEqual(
            ask(base, "blade 0 9; spare 0 1; spare 0 1; set 0; part 0; scrap 3")[-5:],
            [[3, 4], [3, 4], [3, 0, 1, 2], [21], [9]],
        )


if __name__ == "__main__":
    unittest.main()

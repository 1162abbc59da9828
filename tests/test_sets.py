import unittest

from tests.asking import GREATEST, WRONG_THREES, ask, changes_nothing, last, pulls, stock


class Match(unittest.TestCase):
    def test_adds_what_they_need(self):
        base = stock(100, 10, 100, 75, 39)
        self.assertEqual(last(base, "match 2 0 1"), [0])
        self.assertEqual(pulls(base + "; match 2 0 1; part 0", 0, 1, 2), [100, 95, 99])

    def test_just_matched_they_need_nothing(self):
        self.assertEqual(last(stock(100, 10, 100, 75, 39), "match 0 1 2; needs 0 1 2"), [0, 0, 0, 0])

    def test_three_alike(self):
        base = stock(100, 1, 8, 8, 8) + "; match 0 1 2"
        self.assertEqual(last(base), [0])
        self.assertEqual(last(base, "off 0 1 2"), [0])
        self.assertEqual(pulls(base + "; part 0", 0, 1, 2), [8, 8, 8])

    def test_a_difference_of_just_a_unit(self):
        self.assertEqual(pulls(stock(10, 10, 50, 40, 41) + "; match 0 1 2; part 0", 0, 1, 2), [50, 50, 41])

    def test_just_as_much_as_may_be_added(self):
        self.assertEqual(last(stock(20, 10, 50, 50, 30), "match 0 1 2"), [0])
        self.assertEqual(last(stock(20, 10, 50, 50, 21), "match 0 1 2"), [0])
        self.assertEqual(last(stock(20, 10, 50, 50, 20), "match 0 1 2"), [-62])
        self.assertEqual(last(stock(19, 10, 50, 50, 30), "match 0 1 2"), [-62])
        self.assertEqual(last(stock(29, 10, 50, 50, 20), "match 0 1 2"), [-62])
        self.assertEqual(last(stock(10000, 1, 10001, 1, 1), "match 0 1 2"), [0])
        self.assertEqual(last(stock(10000, 1, 10002, 1, 2), "match 0 1 2"), [-62])

    def test_each_blade_by_itself_not_all_together(self):
        self.assertEqual(last(stock(20, 10, 50, 30, 30), "match 0 1 2"), [0])

    def test_at_once_not_over_all_sets(self):
        base = stock(10, 10, 20, 20, 10) + "; match 0 1 2; part 0; weigh 0 30; weigh 1 30"
        self.assertEqual(last(base, "match 0 1 2"), [0])
        self.assertEqual(pulls(base + "; match 0 1 2; part 0", 0, 1, 2), [30, 30, 30])

    def test_most_of_0(self):
        self.assertEqual(last(stock(0, 10, 50, 50, 41), "match 0 1 2"), [0])
        self.assertEqual(last(stock(0, 10, 50, 50, 40), "match 0 1 2"), [-62])
        self.assertEqual(last(stock(0, 1, 5, 5, 5), "match 0 1 2"), [0])
        self.assertEqual(last(stock(0, 1, 5, 5, 4), "match 0 1 2"), [-62])

    def test_numbered_by_the_least_that_is_free(self):
        base = stock(0, 1, *[5] * 12) + "; match 0 1 2; match 3 4 5; match 6 7 8"
        self.assertEqual(ask(base)[-3:], [[0], [1], [2]])
        self.assertEqual(last(base, "part 1; match 9 10 11"), [1])
        self.assertEqual(last(base, "part 2; part 0; match 9 10 11"), [0])
        self.assertEqual(last(base, "part 2; part 0; match 9 10 11; match 0 1 2"), [2])
        self.assertEqual(last(base, "match 9 10 11"), [3])

    def test_six_sets(self):
        base = stock(0, 1, *[5] * 20) + "".join(f"; match {i} {i + 1} {i + 2}" for i in range(0, 18, 3))
        self.assertEqual(ask(base)[-6:], [[s] for s in range(6)])
        self.assertEqual(last(base, "set 5"), [3, 15, 16, 17])

    def test_wrong(self):
        for three, refusal in WRONG_THREES:
            self.assertEqual(last(stock(0, 1, 5, 5, 5), "match " + three), [refusal], three)
        self.assertEqual(last("start 0 1; match 0 0 0"), [-2])

    def test_not_of_one_kind(self):
        for kinds in ((1, 0, 0), (0, 1, 0), (0, 0, 1), (0, 1, 2)):
            base = "start 0 1" + "".join(f"; blade {kind} 5" for kind in kinds)
            self.assertEqual(last(base, "match 0 1 2"), [-22])
        self.assertEqual(last(stock(0, 1, 5, 5, 5, kind=3), "match 0 1 2"), [0])

    def test_not_free(self):
        base = stock(0, 1, *[5] * 6) + "; match 0 1 2; scrap 3"
        for three in ("0 4 5", "4 1 5", "4 5 2", "3 4 5", "0 1 2", "0 3 4"):
            self.assertEqual(last(base, "match " + three), [-16])
        self.assertEqual(last(base, "part 0; match 0 4 5"), [0])

    def test_the_first_named_is_answered(self):
        base = stock(0, 1, 5, 5, 5, 90, 9) + "; blade 1 5; match 0 1 2; scrap 4"
        self.assertEqual(last(base, "match 0 0 6"), [-2])
        self.assertEqual(last(base, "match 0 0 3"), [-22])
        self.assertEqual(last(base, "match 0 3 5"), [-22])
        self.assertEqual(last(base, "match 4 3 5"), [-22])
        self.assertEqual(last(base, "match 0 1 3"), [-16])
        self.assertEqual(last(base, "part 0; match 0 1 4"), [-16])
        self.assertEqual(last(base, "part 0; match 0 1 3"), [-62])
        self.assertEqual(last(base, "part 0; match 0 3 5"), [-22])

    def test_refused_changes_nothing(self):
        base = stock(10, 1, 5, 6, 7, 90, 9, 8) + "; blade 1 5; match 0 1 2; scrap 5"
        for three in ("0 1 7", "3 3 4", "3 4 6", "3 4 0", "3 4 5"):
            self.assertTrue(changes_nothing(7, base, "match " + three))
        self.assertTrue(changes_nothing(7, base + "; part 0", "match 0 1 3"))


class Set(unittest.TestCase):
    def test_its_blades_as_they_were_told(self):
        base = stock(0, 1, *[5] * 6)
        self.assertEqual(last(base, "match 4 0 2; set 0"), [3, 4, 0, 2])
        self.assertEqual(last(base, "match 4 0 2; match 5 3 1; set 1"), [3, 5, 3, 1])
        self.assertEqual(last(base, "match 4 0 2; match 5 3 1; set 0"), [3, 4, 0, 2])

    def test_no_such_set(self):
        self.assertEqual(last("start 0 1; set 0"), [-2])
        base = stock(0, 1, 5, 5, 5) + "; match 0 1 2"
        self.assertEqual(last(base, "set 1"), [-2])
        self.assertEqual(last(base, f"set {GREATEST}"), [-2])
        self.assertEqual(last(base, "part 0; set 0"), [-2])

    def test_changes_nothing(self):
        base = stock(0, 1, 5, 5, 5) + "; match 2 1 0"
        self.assertTrue(changes_nothing(3, base, "set 1"))
        self.assertEqual(ask(base, "set 0; set 0; part 0")[-3:], [[3, 2, 1, 0], [3, 2, 1, 0], [15]])


class Part(unittest.TestCase):
    def test_answers_what_they_pull_together(self):
        self.assertEqual(last(stock(100, 10, 100, 75, 39), "match 0 1 2; part 0"), [294])

    def test_its_weights_are_left_on(self):
        base = stock(100, 10, 100, 75, 39) + "; match 0 1 2; part 0"
        self.assertEqual(last(base, "needs 0 1 2"), [0, 0, 0, 0])
        self.assertEqual(pulls(base, 0, 1, 2), [100, 95, 99])
        self.assertEqual(last(base, "match 0 1 2; part 0"), [294])

    def test_its_blades_are_free(self):
        base = stock(0, 1, 5, 5, 5, 5, 5) + "; match 0 1 2; part 0"
        self.assertEqual(last(base, "match 4 2 3"), [0])
        self.assertEqual(last(base, "third 3 4"), [0, 0])

    def test_other_sets_stay(self):
        base = stock(0, 1, *[5] * 6) + "; match 0 1 2; match 3 4 5; part 0"
        self.assertEqual(last(base, "set 1"), [3, 3, 4, 5])
        self.assertEqual(last(base, "scrap 3"), [-16])
        self.assertEqual(last(base, "part 1"), [15])

    def test_no_such_set(self):
        self.assertEqual(last("start 0 1; part 0"), [-2])
        base = stock(0, 1, 5, 5, 5) + "; match 0 1 2"
        self.assertEqual(last(base, "part 1"), [-2])
        self.assertEqual(last(base, f"part {GREATEST}"), [-2])
        self.assertEqual(last(base, "part 0; part 0"), [-2])

    def test_refused_changes_nothing(self):
        base = stock(100, 10, 100, 75, 39) + "; match 0 1 2"
        self.assertTrue(changes_nothing(3, base, "part 1"))
        self.assertTrue(changes_nothing(3, base, f"part {GREATEST}"))


if __name__ == "__main__":
    unittest.main()

import unittest

from tests.asking import GREATEST, ask, changes_nothing, last, stock

# Blades 0, 1 and 2 are in a set (0 with 20 added), 3 is free, 4 is gone.
MIXED = stock(30, 10, 75, 100, 95, 40, 60) + "; match 0 1 2; scrap 4"


class Add(unittest.TestCase):
    def test_answers_what_it_pulls(self):
        self.assertEqual(ask(MIXED, "add 3 7; add 3 1; look 3")[-3:], [[47], [48], [40, 0, 8, 0, 0]])

    def test_to_a_blade_in_a_set(self):
        self.assertEqual(ask(MIXED, "add 1 5; look 1; set 0")[-3:], [[105], [100, 0, 5, 1, 0], [3, 0, 1, 2]])
        self.assertEqual(ask(MIXED, "add 0 5; look 0")[-2:], [[100], [75, 0, 25, 1, 0]])

    def test_to_one_that_is_gone(self):
        self.assertEqual(last(MIXED, "add 4 5"), [-16])
        self.assertEqual(last(MIXED, "ship 0; add 1 5"), [-16])

    def test_no_such_blade(self):
        self.assertEqual(last("start 5 1; add 0 1"), [-2])
        self.assertEqual(last(MIXED, "add 5 1"), [-2])
        self.assertEqual(last(MIXED, f"add {GREATEST} 1"), [-2])

    def test_n_from_1_to_most(self):
        self.assertEqual(last(MIXED, "add 3 0"), [-22])
        self.assertEqual(last(MIXED, "add 3 1"), [41])
        self.assertEqual(last(MIXED, "add 3 30"), [70])
        self.assertEqual(last(MIXED, "add 3 31"), [-22])
        self.assertEqual(last(MIXED, f"add 3 {GREATEST}"), [-22])
        self.assertEqual(last("start 10000 1; blade 0 100000; add 0 10000"), [110000])
        self.assertEqual(last("start 10000 1; blade 0 100000; add 0 10001"), [-22])

    def test_all_that_was_added_together(self):
        self.assertEqual(last(MIXED, "add 3 10; add 3 20"), [70])
        self.assertEqual(last(MIXED, "add 3 10; add 3 21"), [-22])
        self.assertEqual(last(MIXED, "add 3 30; add 3 1"), [-22])

    def test_by_sets_too(self):
        self.assertEqual(last(MIXED, "add 0 10"), [105])
        self.assertEqual(last(MIXED, "add 0 11"), [-22])
        self.assertEqual(last(MIXED, "part 0; add 0 10"), [105])
        self.assertEqual(last(MIXED, "part 0; add 0 11"), [-22])

    def test_more_than_most_may_be_on_it_by_sets(self):
        base = stock(10, 10, 20, 20, 10) + "; match 0 1 2; part 0; weigh 0 30; weigh 1 30; match 0 1 2"
        self.assertEqual(last(base, "look 2"), [10, 0, 20, 1, 0])
        self.assertEqual(last(base, "add 2 1"), [-22])

    def test_weighed_anew_nothing_is_on_it(self):
        self.assertEqual(last(MIXED, "add 3 30; weigh 3 50; add 3 30"), [80])
        self.assertEqual(last(MIXED, "add 3 30; weigh 3 50; add 3 31"), [-22])

    def test_most_of_0(self):
        self.assertEqual(ask("start 0 1; blade 0 5; add 0 0; add 0 1; look 0")[-3:], [[-22], [-22], [5, 0, 0, 0, 0]])

    def test_a_unit_does_not_matter(self):
        self.assertEqual(last("start 5 1000; blade 0 5; add 0 3"), [8])

    def test_the_first_named_is_answered(self):
        self.assertEqual(last(MIXED, "add 5 0"), [-2])
        self.assertEqual(last(MIXED, "add 5 31"), [-2])
        self.assertEqual(last(MIXED, "add 4 0"), [-16])
        self.assertEqual(last(MIXED, "add 4 31"), [-16])

    def test_refused_changes_nothing(self):
        for refused in ("add 5 1", "add 4 1", "add 3 0", "add 3 31", "add 0 0", "add 0 11"):
            self.assertTrue(changes_nothing(5, MIXED, refused), refused)


class BehindAdd(unittest.TestCase):
    def test_balanced_and_ship(self):
        base = stock(30, 10, 50, 50, 50) + "; match 0 1 2"
        self.assertEqual(ask(base, "add 1 9; balanced 0; ship 0")[-2:], [[1, 81], [159]])
        self.assertEqual(ask(base, "add 1 10; balanced 0; ship 0")[-2:], [[0, 100], [-13]])
        self.assertEqual(ask(base, "add 1 10; add 0 1; add 2 1; balanced 0; ship 0")[-2:], [[1, 81], [162]])

    def test_needs_and_off(self):
        base = stock(30, 10, 50, 50, 50) + "; match 0 1 2; add 1 20"
        self.assertEqual(last(base, "needs 0 1 2"), [4, 2, 0, 2])
        self.assertEqual(last(base, "off 0 1 2"), [400])

    def test_plan_and_least(self):
        base = stock(30, 10, 50, 50, 50, 50)
        self.assertEqual(ask(base, "add 3 3; plan 0; least 0")[-2:], [[1, 3, 0, 1], [6]])

    def test_match_and_follow(self):
        base = stock(30, 10, 50, 50, 50) + "; add 1 30"
        self.assertEqual(ask(base, "match 0 1 2; look 0; look 1")[-3:], [[0], [50, 0, 30, 1, 0], [50, 0, 30, 1, 0]])
        self.assertEqual(ask(base, "follow 0; set 0; look 2")[-3:], [[1], [3, 1, 0, 2], [50, 0, 30, 1, 0]])
        self.assertEqual(last(stock(29, 10, 50, 50, 49), "add 1 29; match 0 1 2"), [-62])

    def test_exchange(self):
        base = stock(30, 10, 50, 50, 50, 50) + "; match 0 1 2; add 1 20; add 3 10"
        self.assertEqual(ask(base, "exchange 0 1 3; look 0; look 1; look 3")[-4:], [
            [70], [50, 0, 10, 1, 0], [50, 0, 20, 0, 0], [50, 0, 10, 1, 0],
        ])
        self.assertEqual(ask(base, "exchange 0 0 3; look 2; look 3")[-3:], [
            [50], [50, 0, 20, 1, 0], [50, 0, 20, 1, 0],
        ])

    def test_third_and_spare(self):
        base = stock(30, 1, 50, 50, 50, 50, 50) + "; match 0 1 2; add 3 2; add 4 1"
        self.assertEqual(ask(base, "third 0 1; spare 0 1; third 3 4")[-3:], [[4, 2], [4, 2], [-33]])

    def test_weigh_part_and_scrap(self):
        base = stock(30, 1, 50, 50, 50) + "; add 0 5; match 0 1 2; add 1 3"
        self.assertEqual(ask(base, "part 0; weigh 0 9; scrap 1; scrap 2")[-4:], [[168], [55], [58], [55]])


if __name__ == "__main__":
    unittest.main()

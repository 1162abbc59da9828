import unittest

from tests.asking import GREATEST, ask, changes_nothing, last, stock

# Blades 0, 1 and 2 are in a set (0 with 20 added), 3 is free, 4 is gone.
MIXED = stock(100, 10, 75, 100, 95, 40, 60) + "; match 0 1 2; scrap 4"


class Blade(unittest.TestCase):
    def test_numbered_from_0(self):
        self.assertEqual(ask("start 0 1; blade 0 7; blade 3 9; blade 0 7"), [[0], [0], [1], [2]])

    def test_kind_up_to_3(self):
        self.assertEqual(last("start 0 1; blade 3 1"), [0])
        self.assertEqual(last("start 0 1; blade 4 1"), [-22])
        self.assertEqual(last(f"start 0 1; blade {GREATEST} 1"), [-22])

    def test_moment_from_1_to_100000(self):
        self.assertEqual(last("start 0 1; blade 0 0"), [-22])
        self.assertEqual(last("start 0 1; blade 0 1"), [0])
        self.assertEqual(last("start 0 1; blade 0 100000"), [0])
        self.assertEqual(last("start 0 1; blade 0 100001"), [-22])
        self.assertEqual(last(f"start 0 1; blade 0 {GREATEST}"), [-22])

    def test_20_and_no_more(self):
        full = "start 0 1" + "; blade 1 5" * 20
        self.assertEqual(last(full), [19])
        self.assertEqual(last(full, "blade 1 5"), [-28])
        self.assertEqual(last(full, "scrap 19"), [5])

    def test_gone_ones_are_still_counted(self):
        full = "start 0 1" + "; blade 1 5" * 20
        self.assertEqual(last(full, "scrap 0; scrap 19; blade 1 5"), [-28])
        self.assertEqual(ask("start 0 1; blade 0 5; scrap 0; blade 0 6")[-1], [1])

    def test_wrong_goes_before_full(self):
        full = "start 0 1" + "; blade 1 5" * 20
        self.assertEqual(last(full, "blade 4 5"), [-22])
        self.assertEqual(last(full, "blade 1 0"), [-22])
        self.assertEqual(last(full, "blade 1 100001"), [-22])

    def test_refused_changes_nothing(self):
        for refused in ("blade 4 1", "blade 0 0", "blade 0 100001"):
            self.assertTrue(changes_nothing(5, MIXED, refused))
        full = MIXED + "; blade 0 7" * 15
        self.assertTrue(changes_nothing(8, full, "blade 0 1"))
        self.assertEqual(last(full, "blade 0 1; scrap 20"), [-2])


class Weigh(unittest.TestCase):
    def test_answers_what_it_pulled(self):
        self.assertEqual(ask("start 0 1; blade 0 7; weigh 0 9; weigh 0 9; scrap 0")[2:], [[7], [9], [9]])

    def test_weighed_anew_nothing_is_added(self):
        parted = stock(100, 10, 75, 100, 95) + "; match 0 1 2; part 0"
        self.assertEqual(ask(parted, "weigh 0 50; scrap 0")[-2:], [[95], [50]])
        self.assertEqual(last(parted, "weigh 0 50; needs 0 1 2"), [5, 5, 0, 0])

    def test_only_the_moment_and_the_added_change(self):
        base = "start 0 1; blade 2 7; blade 2 7; blade 2 7; weigh 1 8; weigh 1 7"
        self.assertEqual(last(base, "match 0 1 2"), [0])

    def test_moment_from_1_to_100000(self):
        base = "start 0 1; blade 0 7"
        self.assertEqual(last(base, "weigh 0 0"), [-22])
        self.assertEqual(last(base, "weigh 0 1"), [7])
        self.assertEqual(last(base, "weigh 0 100000"), [7])
        self.assertEqual(last(base, "weigh 0 100001"), [-22])
        self.assertEqual(last(base, f"weigh 0 {GREATEST}"), [-22])

    def test_no_such_blade(self):
        self.assertEqual(last("start 0 1; weigh 0 5"), [-2])
        self.assertEqual(last(MIXED, "weigh 5 5"), [-2])
        self.assertEqual(last(MIXED, f"weigh {GREATEST} 5"), [-2])

    def test_not_free(self):
        self.assertEqual(last(MIXED, "weigh 0 5"), [-16])
        self.assertEqual(last(MIXED, "weigh 2 5"), [-16])
        self.assertEqual(last(MIXED, "weigh 4 5"), [-16])
        self.assertEqual(last(MIXED, "weigh 3 5"), [40])
        self.assertEqual(last(MIXED, "part 0; weigh 0 5"), [95])

    def test_the_first_named_is_answered(self):
        self.assertEqual(last(MIXED, "weigh 5 0"), [-2])
        self.assertEqual(last(MIXED, "weigh 0 0"), [-16])
        self.assertEqual(last(MIXED, "weigh 4 100001"), [-16])

    def test_refused_changes_nothing(self):
        for refused in ("weigh 5 5", "weigh 0 5", "weigh 4 5", "weigh 3 0", "weigh 3 100001"):
            self.assertTrue(changes_nothing(5, MIXED, refused))


class Scrap(unittest.TestCase):
    def test_answers_what_it_pulled(self):
        self.assertEqual(last("start 0 1; blade 0 7; scrap 0"), [7])
        self.assertEqual(last(MIXED, "part 0; scrap 0"), [95])

    def test_no_such_blade(self):
        self.assertEqual(last("start 0 1; scrap 0"), [-2])
        self.assertEqual(last(MIXED, "scrap 5"), [-2])
        self.assertEqual(last(MIXED, f"scrap {GREATEST}"), [-2])

    def test_not_free(self):
        self.assertEqual(last(MIXED, "scrap 1"), [-16])
        self.assertEqual(last(MIXED, "scrap 4"), [-16])
        self.assertEqual(last(MIXED, "scrap 3; scrap 3"), [-16])

    def test_a_gone_one_goes_into_no_set(self):
        base = stock(0, 1, 5, 5, 5, 5)
        self.assertEqual(last(base, "scrap 2; match 0 1 2"), [-16])
        self.assertEqual(last(base, "scrap 2; third 0 1"), [3, 0])

    def test_a_gone_one_is_still_such_a_blade(self):
        base = stock(0, 10, 50, 30, 20) + "; scrap 2"
        self.assertEqual(last(base, "needs 0 1 2"), [5, 0, 2, 3])
        self.assertEqual(last(base, "off 0 1 2"), [700])

    def test_refused_changes_nothing(self):
        for refused in ("scrap 5", "scrap 0", "scrap 4"):
            self.assertTrue(changes_nothing(5, MIXED, refused))


if __name__ == "__main__":
    unittest.main()

"""The corners that the document names, each over the calls that it touches."""

import unittest

from tests.asking import added, ask, last, pulls, stock


class Corners(unittest.TestCase):
    def test_three_alike(self):
        base = stock(0, 1, 8, 8, 8)
        self.assertEqual(ask(base, "plan 0; least 0; follow 0; balanced 0; sums; ship 0")[-6:], [
            [1, 0, 1, 2], [0], [1], [1, 0], [24, 0], [24],
        ])

    def test_a_difference_of_just_a_unit(self):
        base = stock(10, 10, 50, 40, 41)
        self.assertEqual(ask(base, "least 0; follow 0; set 0; balanced 0")[-4:], [
            [19], [1], [3, 0, 2, 1], [1, 81],
        ])
        self.assertEqual(pulls(base + "; follow 0", 0, 1, 2), [50, 50, 41])

    def test_a_difference_of_just_a_unit_in_an_exchange(self):
        base = stock(10, 10, 50, 50, 50, 40, 41) + "; match 0 1 2"
        self.assertEqual(added(base + "; exchange 0 0 3; exchange 0 1 4", 3, 4), [10, 0])

    def test_most_of_0(self):
        base = stock(0, 10, 50, 50, 41, 59, 60)
        self.assertEqual(last(base, "follow 0"), [-62])
        self.assertEqual(last(base, "scrap 4; follow 0"), [1])
        self.assertEqual(last(base, "match 0 1 2; exchange 0 2 3"), [41])
        self.assertEqual(last(base, "match 0 1 2; exchange 0 2 4"), [-62])
        self.assertEqual(last(base, "match 0 1 2; add 0 1"), [-22])
        self.assertEqual(ask(base, "match 0 1 2; balanced 0; ship 0; state")[-3:], [[1, 81], [141], [5, 3, 0, 0, 10]])

    def test_one_or_two_left_over(self):
        for left in (1, 2):
            base = stock(0, 1, *[9] * 3, *[7] * left)
            self.assertEqual(ask(base, "plan 0; least 0; follow 0; plan 0; least 0; follow 0")[-6:], [
                [1, 0, 1, 2], [0], [1], [0], [0], [0],
            ])
            self.assertEqual(last(base, "follow 0; free 0"), [left] + [3, 4][:left])

    def test_a_set_that_is_parted_its_weights_left_on(self):
        base = stock(60, 10, 100, 75, 39) + "; follow 0; part 0"
        self.assertEqual(added(base, 0, 1, 2), [0, 20, 60])
        self.assertEqual(ask(base, "plan 0; least 0; follow 0; sums")[-4:], [[1, 0, 2, 1], [6], [1], [214, 80]])

    def test_a_spare_that_pulls_more_than_all(self):
        base = stock(60, 10, 50, 50, 50, 75) + "; match 0 1 2"
        self.assertEqual(ask(base, "spare 0 0; exchange 0 0 3; balanced 0; sums")[-4:], [
            [3, 4], [50], [1, 25], [225, 40],
        ])
        self.assertEqual(pulls(base + "; exchange 0 0 3", 0, 1, 2, 3), [50, 70, 70, 75])

    def test_a_number_that_is_free_again(self):
        base = stock(0, 1, *[5] * 12) + "; follow 0"
        for freed in ("part 1", "ship 1"):
            line = base + "; " + freed + "; blade 0 5; blade 0 5; blade 0 5"
            self.assertEqual(ask(line, "set 1; match 12 13 14; set 1; look 12")[-4:], [
                [-2], [1], [3, 12, 13, 14], [5, 0, 0, 2, 0],
            ])

    def test_a_blade_weighed_anew(self):
        base = stock(60, 10, 100, 75, 39) + "; follow 0; part 0; weigh 2 45"
        self.assertEqual(ask(base, "look 2; plan 0; least 0; sums; add 2 60")[-5:], [
            [45, 0, 0, 0, 0], [1, 0, 1, 2], [60], [220, 20], [105],
        ])
        self.assertEqual(added(base + "; follow 0", 0, 1, 2), [0, 20, 50])


if __name__ == "__main__":
    unittest.main()

import unittest

from tests.asking import GREATEST, WRONG_THREES, ask, changes_nothing, last, stock


class Needs(unittest.TestCase):
    def test_together_then_each_as_they_were_told(self):
        base = stock(0, 10, 100, 75, 39)
        self.assertEqual(last(base, "needs 0 1 2"), [8, 0, 2, 6])
        self.assertEqual(last(base, "needs 2 0 1"), [8, 6, 0, 2])
        self.assertEqual(last(base, "needs 1 2 0"), [8, 2, 6, 0])

    def test_three_alike(self):
        self.assertEqual(last(stock(0, 1, 8, 8, 8), "needs 0 1 2"), [0, 0, 0, 0])

    def test_a_difference_of_just_a_unit(self):
        self.assertEqual(last(stock(0, 10, 50, 40, 41), "needs 0 1 2"), [1, 0, 1, 0])
        self.assertEqual(last(stock(0, 10, 50, 31, 30), "needs 0 1 2"), [3, 0, 1, 2])
        self.assertEqual(last(stock(0, 1000, 1001, 1, 2), "needs 0 1 2"), [1, 0, 1, 0])

    def test_greatest_difference(self):
        self.assertEqual(last(stock(0, 1, 1, 100000, 1), "needs 0 1 2"), [199998, 99999, 0, 99999])

    def test_most_does_not_matter(self):
        self.assertEqual(last(stock(0, 1, 9, 5, 5), "needs 0 1 2"), [8, 0, 4, 4])

    def test_nor_do_kind_and_whether_they_are_free(self):
        base = stock(9, 1, 5, 5, 5) + "; blade 1 7; blade 2 6; scrap 4; match 0 1 2"
        self.assertEqual(last(base, "needs 0 3 4"), [3, 2, 0, 1])

    def test_what_was_added_counts(self):
        base = stock(9, 2, 10, 5, 10, 20) + "; match 0 1 2"
        self.assertEqual(last(base, "needs 1 0 3"), [10, 5, 5, 0])
        self.assertEqual(last(base, "weigh 3 11; needs 1 0 3"), [1, 1, 0, 0])

    def test_wrong(self):
        for three, refusal in WRONG_THREES:
            self.assertEqual(last(stock(0, 1, 5, 5, 5), "needs " + three), [refusal], three)
        self.assertEqual(last("start 0 1; needs 0 0 0"), [-2])

    def test_changes_nothing(self):
        base = stock(9, 1, 5, 6, 7)
        self.assertTrue(changes_nothing(3, base, "needs 0 0 1"))
        self.assertTrue(changes_nothing(3, base, "needs 0 1 3"))
        self.assertEqual(ask(base, "needs 0 1 2; needs 0 1 2; scrap 0")[-3:], [[3, 2, 1, 0], [3, 2, 1, 0], [5]])


class Off(unittest.TestCase):
    def test_ordinary(self):
        for moments, far in (((1, 2, 3), 3), ((3, 1, 2), 3), ((5, 5, 6), 1), ((5, 6, 6), 1), ((10, 20, 40), 700)):
            self.assertEqual(last(stock(0, 1, *moments), "off 0 1 2"), [far], moments)

    def test_alike_and_only_then_nothing(self):
        self.assertEqual(last(stock(0, 1, 8, 8, 8), "off 2 0 1"), [0])
        self.assertEqual(last(stock(0, 1, 8, 8, 9), "off 2 0 1"), [1])

    def test_whichever_way_they_are_told(self):
        base = stock(0, 1, 10, 20, 40)
        for three in ("0 1 2", "0 2 1", "1 0 2", "1 2 0", "2 0 1", "2 1 0"):
            self.assertEqual(last(base, "off " + three), [700])

    def test_may_be_greater_than_other_numbers(self):
        self.assertEqual(last(stock(0, 1, 100000, 1, 1), "off 0 1 2"), [9999800001])
        self.assertGreater(9999800001, GREATEST)
        self.assertEqual(last(stock(10000, 1, 100000, 1, 1), "add 0 10000; off 0 1 2"), [109999 ** 2])

    def test_what_was_added_counts(self):
        base = stock(9, 2, 10, 5, 10) + "; match 0 1 2"
        self.assertEqual(last(base, "off 0 1 2"), [1])

    def test_kind_and_whether_they_are_free_do_not_matter(self):
        base = stock(9, 1, 5, 5, 5) + "; blade 1 7; blade 2 6; scrap 4; match 0 1 2"
        self.assertEqual(last(base, "off 0 3 4"), [3])

    def test_wrong(self):
        for three, refusal in WRONG_THREES:
            self.assertEqual(last(stock(0, 1, 5, 5, 5), "off " + three), [refusal], three)
        self.assertEqual(last("start 0 1; off 0 0 0"), [-2])

    def test_changes_nothing(self):
        base = stock(9, 1, 5, 6, 7)
        self.assertTrue(changes_nothing(3, base, "off 0 0 1"))
        self.assertTrue(changes_nothing(3, base, "off 0 1 3"))
        self.assertEqual(ask(base, "off 0 1 2; off 0 1 2; scrap 0")[-3:], [[3], [3], [5]])


if __name__ == "__main__":
    unittest.main()

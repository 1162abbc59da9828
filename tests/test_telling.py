"""The calls that only tell: free, look, sums and state."""

import unittest

from tests.asking import GREATEST, ask, changes_nothing, last, stock

# What each changes, from 100, 75, 39, 80 (kind 0) and 60 (kind 2), most 60 and unit 10:
# the line behind these blades; each blade's look; free of kind 0; sums; state.
STEPS = (
    ("",
     ([100, 0, 0, 0, 0], [75, 0, 0, 0, 0], [39, 0, 0, 0, 0], [80, 0, 0, 0, 0], [60, 2, 0, 0, 0]),
     [4, 0, 1, 2, 3], [354, 0], [5, 0, 0, 60, 10]),
    ("; match 0 1 2",
     ([100, 0, 0, 1, 0], [75, 0, 20, 1, 0], [39, 0, 60, 1, 0], [80, 0, 0, 0, 0], [60, 2, 0, 0, 0]),
     [1, 3], [354, 80], [5, 0, 1, 60, 10]),
    ("; match 0 1 2; part 0",
     ([100, 0, 0, 0, 0], [75, 0, 20, 0, 0], [39, 0, 60, 0, 0], [80, 0, 0, 0, 0], [60, 2, 0, 0, 0]),
     [4, 0, 1, 2, 3], [354, 80], [5, 0, 0, 60, 10]),
    ("; match 0 1 2; exchange 0 1 3",
     ([100, 0, 0, 1, 0], [75, 0, 20, 0, 0], [39, 0, 60, 1, 0], [80, 0, 20, 1, 0], [60, 2, 0, 0, 0]),
     [1, 1], [354, 100], [5, 0, 1, 60, 10]),
    ("; follow 0",
     ([100, 0, 0, 1, 0], [75, 0, 20, 1, 0], [39, 0, 0, 0, 0], [80, 0, 20, 1, 0], [60, 2, 0, 0, 0]),
     [1, 2], [354, 40], [5, 0, 1, 60, 10]),
    ("; match 0 1 2; ship 0",
     ([100, 0, 0, 0, 1], [75, 0, 20, 0, 1], [39, 0, 60, 0, 1], [80, 0, 0, 0, 0], [60, 2, 0, 0, 0]),
     [1, 3], [354, 80], [5, 3, 0, 60, 10]),
    ("; match 0 1 2; part 0; scrap 1; scrap 4",
     ([100, 0, 0, 0, 0], [75, 0, 20, 0, 1], [39, 0, 60, 0, 0], [80, 0, 0, 0, 0], [60, 2, 0, 0, 1]),
     [3, 0, 2, 3], [354, 80], [5, 2, 0, 60, 10]),
    ("; match 0 1 2; part 0; weigh 1 76; weigh 3 1",
     ([100, 0, 0, 0, 0], [76, 0, 0, 0, 0], [39, 0, 60, 0, 0], [1, 0, 0, 0, 0], [60, 2, 0, 0, 0]),
     [4, 0, 1, 2, 3], [276, 60], [5, 0, 0, 60, 10]),
    ("; match 0 1 2; add 1 7; add 3 9",
     ([100, 0, 0, 1, 0], [75, 0, 27, 1, 0], [39, 0, 60, 1, 0], [80, 0, 9, 0, 0], [60, 2, 0, 0, 0]),
     [1, 3], [354, 96], [5, 0, 1, 60, 10]),
)
BEGINNING = stock(60, 10, 100, 75, 39, 80) + "; blade 2 60"


class Steps(unittest.TestCase):
    def test_look(self):
        for line, looks, *others in STEPS:
            for i, look in enumerate(looks):
                self.assertEqual(last(BEGINNING + line, f"look {i}"), look, (line, i))

    def test_free(self):
        for line, looks, free, *others in STEPS:
            self.assertEqual(last(BEGINNING + line, "free 0"), free, line)

    def test_sums(self):
        for line, looks, free, sums, state in STEPS:
            self.assertEqual(last(BEGINNING + line, "sums"), sums, line)

    def test_state(self):
        for line, looks, free, sums, state in STEPS:
            self.assertEqual(last(BEGINNING + line, "state"), state, line)

    def test_telling_changes_nothing(self):
        for line, looks, free, sums, state in STEPS:
            once = "free 0; look 1; sums; state"
            told = ask(BEGINNING + line, once, once)
            self.assertEqual(told[-8:-4], told[-4:], line)


class Free(unittest.TestCase):
    def test_none(self):
        self.assertEqual(last("start 0 1; free 0"), [0])
        self.assertEqual(last(stock(0, 1, 5, 5, 5), "match 0 1 2; free 0"), [0])
        self.assertEqual(last(stock(0, 1, 5), "scrap 0; free 0"), [0])

    def test_rising_however_they_were_freed(self):
        base = stock(0, 1, *[5] * 7) + "; match 6 1 4; match 3 0 2"
        self.assertEqual(last(base, "free 0"), [1, 5])
        self.assertEqual(last(base, "part 0; free 0"), [4, 1, 4, 5, 6])
        self.assertEqual(last(base, "part 0; part 1; free 0"), [7, 0, 1, 2, 3, 4, 5, 6])

    def test_of_the_kind_alone(self):
        base = "start 0 1; blade 3 5; blade 0 5; blade 1 5; blade 3 5"
        self.assertEqual(ask(base, "free 0; free 1; free 2; free 3")[-4:], [[1, 1], [1, 2], [0], [2, 0, 3]])

    def test_20_of_them(self):
        self.assertEqual(last(stock(0, 1, *[5] * 20), "free 0"), [20] + list(range(20)))

    def test_kind_up_to_3(self):
        base = stock(0, 1, 5, kind=3)
        self.assertEqual(last(base, "free 3"), [1, 0])
        self.assertEqual(last(base, "free 4"), [-22])
        self.assertEqual(last(base, f"free {GREATEST}"), [-22])

    def test_refused_changes_nothing(self):
        self.assertTrue(changes_nothing(5, BEGINNING + "; match 0 1 2", "free 4"))


class Look(unittest.TestCase):
    def test_its_set_and_one(self):
        base = stock(0, 1, *[5] * 9) + "; match 0 1 2; match 3 4 5; match 8 7 6"
        self.assertEqual([last(base, f"look {i}")[3] for i in range(9)], [1, 1, 1, 2, 2, 2, 3, 3, 3])
        again = base + "; part 0; part 1; match 3 0 5"
        self.assertEqual([last(again, f"look {i}")[3] for i in range(9)], [1, 0, 0, 1, 0, 1, 3, 3, 3])

    def test_no_such_blade(self):
        self.assertEqual(last("start 0 1; look 0"), [-2])
        self.assertEqual(last(BEGINNING, "look 5"), [-2])
        self.assertEqual(last(BEGINNING, f"look {GREATEST}"), [-2])

    def test_a_gone_one_is_still_told(self):
        self.assertEqual(last(BEGINNING, "scrap 4; look 4"), [60, 2, 0, 0, 1])

    def test_refused_changes_nothing(self):
        self.assertTrue(changes_nothing(5, BEGINNING + "; match 0 1 2", "look 5"))


class SumsAndState(unittest.TestCase):
    def test_nothing_there(self):
        self.assertEqual(ask("start 0 1; sums; state")[-2:], [[0, 0], [0, 0, 0, 0, 1]])

    def test_most_and_unit_as_they_were_told(self):
        self.assertEqual(last("start 10000 1000; state"), [0, 0, 0, 10000, 1000])
        self.assertEqual(last("start 10000 1000; start 10001 1; state"), [0, 0, 0, 10000, 1000])

    def test_20_blades_six_sets(self):
        base = stock(0, 1, *[100000] * 20) + "; follow 0"
        self.assertEqual(ask(base, "sums; state")[-2:], [[2000000, 0], [20, 0, 6, 0, 1]])
        shipped = base + "; ship 0; ship 5; scrap 19"
        self.assertEqual(ask(shipped, "sums; state")[-2:], [[2000000, 0], [20, 7, 4, 0, 1]])


if __name__ == "__main__":
    unittest.main()

import unittest

from tests.asking import COUNTS, GREATEST, NAMES, ask, changes_nothing, last, stock


def each_other_call():
    """Every call but start, with numbers that would do if there were any."""
    return [
        " ".join([name] + ["0", "1", "2"][:count])
        for name, count in zip(NAMES, COUNTS)
        if name != "start"
    ]


class Start(unittest.TestCase):
    def test_ordinary(self):
        self.assertEqual(ask("start 100 10"), [[0]])

    def test_most_up_to_10000(self):
        self.assertEqual(last("start 0 1"), [0])
        self.assertEqual(last("start 10000 1"), [0])
        self.assertEqual(last("start 10001 1"), [-22])
        self.assertEqual(last(f"start {GREATEST} 1"), [-22])

    def test_unit_from_1_to_1000(self):
        self.assertEqual(last("start 5 0"), [-22])
        self.assertEqual(last("start 5 1"), [0])
        self.assertEqual(last("start 5 1000"), [0])
        self.assertEqual(last("start 5 1001"), [-22])
        self.assertEqual(last(f"start 5 {GREATEST}"), [-22])

    def test_both_wrong_is_answered_once(self):
        self.assertEqual(ask("start 10001 0"), [[-22]])

    def test_a_second_start_leaves_nothing(self):
        base = stock(0, 1, 5, 5, 5) + "; match 0 1 2; start 0 1"
        self.assertEqual(last(base), [0])
        self.assertEqual(last(base, "scrap 0"), [-2])
        self.assertEqual(last(base, "set 0"), [-2])
        self.assertEqual(last(base, "blade 3 8"), [0])
        self.assertEqual(last(base, "blade 0 5; blade 0 5; blade 0 5; match 0 1 2"), [0])

    def test_no_call_finds_anything_behind_a_second_start(self):
        base = stock(50, 5, 5, 15, 5, 5, 7) + "; match 0 1 2; scrap 3; add 4 9; start 40 3"
        for call, answer in (
            ("exchange 0 0 4", [-2]), ("plan 0", [0]), ("least 0", [0]), ("follow 0", [0]), ("add 4 1", [-2]),
            ("balanced 0", [-2]), ("ship 0", [-2]), ("free 0", [0]), ("look 0", [-2]), ("sums", [0, 0]),
            ("state", [0, 0, 0, 40, 3]),
        ):
            self.assertEqual(last(base, call), answer, call)

    def test_a_second_start_tells_most_and_unit_anew(self):
        again = stock(100, 10, 1) + ";" + stock(20, 5, 30, 30, 10)
        self.assertEqual(last(again, "needs 0 1 2"), [4, 0, 0, 4])
        self.assertEqual(last(again, "match 0 1 2"), [0])
        self.assertEqual(last(again, "weigh 2 5; match 0 1 2"), [-62])

    def test_20_blades_more_behind_a_second_start(self):
        full = ["start 0 1"] + ["blade 0 1"] * 20
        self.assertEqual(last(*full, *full), [19])

    def test_a_refused_second_start_changes_nothing(self):
        base = stock(20, 10, 30, 30, 10, 5, 5, 5) + "; match 3 4 5"
        for refused in ("start 10001 1", "start 0 0", "start 0 1001"):
            self.assertTrue(changes_nothing(6, base, refused))
            self.assertEqual(last(base, refused, "match 0 1 2"), [1])
            self.assertEqual(last(base, refused, "state"), [6, 0, 1, 20, 10])
            self.assertEqual(last(base, refused, "weigh 2 1; needs 0 1 2"), [2, 0, 0, 2])


class BeforeStart(unittest.TestCase):
    def test_each_call_before_any_start(self):
        for call in each_other_call():
            self.assertEqual(ask(call, "start 0 1"), [[-11], [0]], call)

    def test_each_call_behind_a_refused_start(self):
        for refused in ("start 10001 1", "start 0 0", "start 0 1001"):
            for call in each_other_call():
                self.assertEqual(ask(refused, call), [[-22], [-11]], call)

    def test_all_of_them_in_one_line(self):
        calls = each_other_call()
        self.assertEqual(ask(*calls), [[-11]] * len(calls))

    def test_wrong_numbers_are_answered_likewise(self):
        self.assertEqual(ask("blade 4 0"), [[-11]])
        self.assertEqual(ask(f"weigh {GREATEST} 0"), [[-11]])
        self.assertEqual(ask("match 0 0 0"), [[-11]])
        self.assertEqual(ask("exchange 0 0 0; plan 4; least 4; follow 4; add 0 0; free 4"), [[-11]] * 6)
        self.assertEqual(ask(f"balanced {GREATEST}; ship {GREATEST}; look {GREATEST}"), [[-11]] * 3)

    def test_what_was_asked_before_start_is_not_there_behind_it(self):
        self.assertEqual(ask("blade 0 1; start 0 1; scrap 0; blade 0 1"), [[-11], [0], [-2], [0]])

    def test_a_start_behind_a_refused_one(self):
        self.assertEqual(ask("start 0 0; blade 0 1; start 0 1; blade 0 1"), [[-22], [-11], [0], [0]])


if __name__ == "__main__":
    unittest.main()

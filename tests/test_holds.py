"""What holds, b and c, asked behind many lines; each seed makes the same line every time."""

import itertools
import random
import unittest

from tests.asking import ask, last, words_of


def some_line(seed):
    """A start, some blades, and calls that change them, many of which are refused."""
    rng = random.Random(seed)
    blades = rng.randint(6, 12)
    spread = rng.choice((3, 30, 300))
    kinds = rng.choice((1, 2))
    calls = [f"start {rng.choice((0, spread // 2, spread))} {rng.choice((1, 2, 7, 10))}"]
    calls += [f"blade {rng.randrange(kinds)} {100 + rng.randrange(spread)}" for one in range(blades)]
    for one in range(40):
        i, j, k = rng.sample(range(blades), 3)
        moment = 100 + rng.randrange(spread)
        choice = (f"match {i} {j} {k}", f"part {rng.randrange(3)}", f"weigh {i} {moment}", f"scrap {i}")
        calls += rng.choices(choice, (12, 3, 3, 1))
    return "; ".join(calls)


def kinds_of(line):
    return [int(given[0]) for name, *given in words_of(line) if name == "blade"]


def free_ones(line, blades):
    """Those whose weighing is refused for the 0 alone."""
    asked = ask(line, *[f"weigh {i} 0" for i in range(blades)])[-blades:]
    return [i for i in range(blades) if asked[i] == [-22]]


def sets_of(line):
    """The blades of each set, by its number."""
    asked = ask(line, *[f"set {s}" for s in range(6)])[-6:]
    return {s: answer[1:] for s, answer in enumerate(asked) if answer != [-2]}


def units(line, three):
    return last(line, "needs {} {} {}".format(*three))[0]


def fewest_beside(line, pair, others):
    """Straight from the words: the least total, and of those the least number."""
    total, x = min((units(line, (*pair, x)), x) for x in others)
    return [x, total]


LINES = [some_line(seed) for seed in range(60)]


class Holds(unittest.TestCase):
    def test_b_just_matched_a_set_needs_nothing(self):
        matched = 0
        for line in LINES:
            calls = line.split("; ")
            for at, answer in enumerate(ask(line)):
                name, *given = calls[at].split()
                if name == "match" and answer[0] >= 0:
                    matched += 1
                    self.check_just_matched("; ".join(calls[:at + 1]), answer[0], given)
        self.assertGreater(matched, 60)

    def check_just_matched(self, line, s, three):
        self.assertEqual(last(line, "needs " + " ".join(three)), [0, 0, 0, 0], line)
        pulls = [last(line, f"part {s}; scrap {i}")[0] for i in three]
        off = last(line, "off " + " ".join(three))[0]
        self.assertEqual(off == 0, len(set(pulls)) == 1, line)
        self.assertEqual(2 * off, sum((a - b) ** 2 for a, b in itertools.combinations(pulls, 2)), line)

    def test_c_each_blade_in_one_set_at_most_and_sets_of_one_kind(self):
        for line in LINES:
            kinds = kinds_of(line)
            trios = sets_of(line).values()
            bound = [i for trio in trios for i in trio]
            self.assertEqual(len(bound), len(set(bound)), line)
            self.assertFalse(set(bound) & set(free_ones(line, len(kinds))), line)
            for trio in trios:
                self.assertEqual(len(trio), 3, line)
                self.assertEqual(len({kinds[i] for i in trio}), 1, line)

    def test_c_no_third_needs_fewer(self):
        for line in LINES:
            kinds = kinds_of(line)
            free = free_ones(line, len(kinds))
            for i, j in itertools.combinations(range(len(kinds)), 2):
                others = [x for x in free if kinds[x] == kinds[i] and x not in (i, j)]
                expected = [-22] if kinds[i] != kinds[j] else [-33]
                if kinds[i] == kinds[j] and others:
                    expected = fewest_beside(line, (i, j), others)
                self.assertEqual(last(line, f"third {i} {j}"), expected, line)

    def test_c_no_spare_needs_fewer(self):
        for line in LINES:
            kinds = kinds_of(line)
            free = free_ones(line, len(kinds))
            for s, trio in sets_of(line).items():
                others = [x for x in free if kinds[x] == kinds[trio[0]]]
                for i in trio:
                    pair = [j for j in trio if j != i]
                    expected = fewest_beside(line, pair, others) if others else [-33]
                    self.assertEqual(last(line, f"spare {s} {i}"), expected, line)


if __name__ == "__main__":
    unittest.main()

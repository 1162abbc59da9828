"""What holds, a, b and c, asked behind many lines; each seed makes the same line every time."""

import itertools
import random
import unittest

from tests.asking import ask, last, stock, words_of


def some_line(seed):
    """A start, some blades, and calls that change them, many of which are refused."""
    rng = random.Random(seed)
    blades = rng.randint(6, 12)
    spread = rng.choice((3, 30, 300))
    kinds = rng.choice((1, 2))
    calls = [f"start {rng.choice((0, spread // 2, spread))} {rng.choice((1, 2, 7, 10))}"]
    calls += [f"blade {rng.randrange(kinds)} {100 + rng.randrange(spread)}" for one in range(blades)]
    for one in range(40):
        i, j, k = rng.sample(range(blades), 3)
        s = rng.randrange(3)
        moment = 100 + rng.randrange(spread)
        choice = (
            f"match {i} {j} {k}", f"part {s}", f"weigh {i} {moment}", f"scrap {i}", f"exchange {s} {i} {j}",
            f"follow {rng.randrange(kinds)}", f"add {i} {rng.randrange(spread)}", f"ship {s}",
        )
        calls += rng.choices(choice, (16, 4, 6, 1, 16, 2, 4, 1))
    return "; ".join(calls)


def kinds_of(line):
    return [int(given[0]) for name, *given in words_of(line) if name == "blade"]


def free_ones(line, blades):
    """Those whose weighing is refused for the 0 alone."""
    asked = ask(line, *[f"weigh {i} 0" for i in range(blades)])[-blades:]
    return [i for i in range(blades) if asked[i] == [-22]]


def sets_of(line):
    """The blades of each set, by its number."""
    asked = ask(line, *[f"set {s}" for s in range(6)])[-6:]
    return {s: answer[1:] for s, answer in enumerate(asked) if answer != [-2]}


def units(line, three):
    return last(line, "needs {} {} {}".format(*three))[0]


def fewest_beside(line, pair, others):
    """Straight from the words: the least total, and of those the least number."""
    total, x = min((units(line, (*pair, x)), x) for x in others)
    return [x, total]


LINES = [some_line(seed) for seed in range(60)]


def ways_to_make_threes(blades):
    """Each way to make threes of all blades, whose number goes by three."""
    if not blades:
        yield []
        return
    first, *others = blades
    for pair in itertools.combinations(others, 2):
        for rest in ways_to_make_threes([i for i in others if i not in pair]):
            yield [(first, *pair)] + rest


def takes(threes, pulls):
    """What threes of blades take, straight from the words."""
    return sum(max(pulls[i] for i in three) - pulls[i] for three in threes for i in three)


def threes_of(plan):
    return [plan[at:at + 3] for at in range(1, len(plan), 3)]


class Plans(unittest.TestCase):
    """What holds, a."""

    def check(self, base, blades):
        looks = [last(base, f"look {i}") for i in range(blades)]
        pulls = [look[0] + look[2] for look in looks]
        least = last(base, "least 0")[0]
        plan = threes_of(last(base, "plan 0"))
        self.assertEqual(sorted(i for three in plan for i in three), list(range(blades)), base)
        self.assertEqual(takes(plan, pulls), least, base)
        for way in ways_to_make_threes(list(range(blades))):
            self.assertGreaterEqual(takes(way, pulls), least, base)

    def test_each_way_with_small_moments(self):
        for moments in itertools.product((1, 2, 4), repeat=3):
            self.check(stock(0, 1, *moments), 3)
        for moments in itertools.product((1, 2, 4), repeat=6):
            self.check(stock(0, 1, *moments), 6)

    def test_nine_blades_some_with_weights(self):
        rng = random.Random(9)
        for spread in (3, 10, 1000):
            for one in range(5):
                base = stock(spread, 1, *[1 + rng.randrange(spread) for blade in range(9)])
                adds = [f"add {i} {1 + rng.randrange(spread)}" for i in rng.sample(range(9), 4)]
                self.check("; ".join([base] + adds), 9)

    def test_there_are_as_many_ways_as_there_should_be(self):
        for blades, ways in ((0, 1), (3, 1), (6, 10), (9, 280)):
            self.assertEqual(len(list(ways_to_make_threes(list(range(blades))))), ways)


class Holds(unittest.TestCase):
    def test_b_just_matched_a_set_needs_nothing(self):
        matched = {"match": 0, "exchange": 0, "follow": 0}
        for line in LINES:
            calls = line.split("; ")
            for at, answer in enumerate(ask(line)):
                name = calls[at].split()[0]
                if name in matched and answer[0] >= 0:
                    just_made = self.check_just_matched("; ".join(calls[:at]), calls[at])
                    matched[name] += len(just_made)
                    self.assertEqual(len(just_made), answer[0] if name == "follow" else 1, line)
        self.assertGreater(min(matched.values()), 20, matched)

    def check_just_matched(self, before, call):
        """The sets that the call made or changed, each of which needs nothing."""
        line = before + "; " + call
        sets_before = sets_of(before)
        just_made = {s: trio for s, trio in sets_of(line).items() if sets_before.get(s) != trio}
        for s, trio in just_made.items():
            three = " ".join(str(i) for i in trio)
            self.assertEqual(last(line, "needs " + three), [0, 0, 0, 0], line)
            pulled = [last(line, f"part {s}; scrap {i}")[0] for i in trio]
            self.assertLess(max(pulled) - min(pulled), last(line, "state")[4], line)
            off = last(line, "off " + three)[0]
            self.assertEqual(last(line, f"balanced {s}"), [1, off], line)
            self.assertEqual(off == 0, len(set(pulled)) == 1, line)
            self.assertEqual(2 * off, sum((a - b) ** 2 for a, b in itertools.combinations(pulled, 2)), line)
        return just_made

    def test_c_each_blade_in_one_set_at_most_and_sets_of_one_kind(self):
        for line in LINES:
            kinds = kinds_of(line)
            trios = sets_of(line).values()
            bound = [i for trio in trios for i in trio]
            self.assertEqual(len(bound), len(set(bound)), line)
            self.assertFalse(set(bound) & set(free_ones(line, len(kinds))), line)
            for trio in trios:
                self.assertEqual(len(trio), 3, line)
                self.assertEqual(len({kinds[i] for i in trio}), 1, line)

    def test_c_what_is_told_agrees(self):
        for line in LINES:
            kinds = kinds_of(line)
            looks = [last(line, f"look {i}") for i in range(len(kinds))]
            trios = sets_of(line)
            homes = {i: s + 1 for s, trio in trios.items() for i in trio}
            self.assertEqual([look[3] for look in looks], [homes.get(i, 0) for i in range(len(kinds))], line)
            free = [i for i, look in enumerate(looks) if look[3:] == [0, 0]]
            self.assertEqual(free, free_ones(line, len(kinds)), line)
            for kind in range(4):
                expected = [i for i in free if kinds[i] == kind]
                self.assertEqual(last(line, f"free {kind}"), [len(expected)] + expected, line)
            self.assertEqual(last(line, "sums"), [sum(look[0] for look in looks), sum(look[2] for look in looks)])
            gone = sum(look[4] for look in looks)
            self.assertEqual(last(line, "state")[:3], [len(kinds), gone, len(trios)], line)

    def test_c_no_third_needs_fewer(self):
        for line in LINES:
            kinds = kinds_of(line)
            free = free_ones(line, len(kinds))
            for i, j in itertools.combinations(range(len(kinds)), 2):
                others = [x for x in free if kinds[x] == kinds[i] and x not in (i, j)]
                expected = [-22] if kinds[i] != kinds[j] else [-33]
                if kinds[i] == kinds[j] and others:
                    expected = fewest_beside(line, (i, j), others)
                self.assertEqual(last(line, f"third {i} {j}"), expected, line)

    def test_c_no_spare_needs_fewer(self):
        for line in LINES:
            kinds = kinds_of(line)
            free = free_ones(line, len(kinds))
            for s, trio in sets_of(line).items():
                others = [x for x in free if kinds[x] == kinds[trio[0]]]
                for i in trio:
                    pair = [j for j in trio if j != i]
                    expected = fewest_beside(line, pair, others) if others else [-33]
                    self.assertEqual(last(line, f"spare {s} {i}"), expected, line)


if __name__ == "__main__":
    unittest.main()

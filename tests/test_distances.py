"""K3 and K4: distances against a search over rows of edits; a metric; limits."""

import itertools
import random
import unittest

from tests import models
from tests.calls import ask, ask_by, distance, flags, written

COSTS = (
    (1, 1, 0), (1, 1, 1), (2, 3, 0), (2, 3, 2), (2, 5, 0), (2, 5, 3), (1, 3, 1), (3, 1, 0), (3, 1, 3), (3, 2, 4), (2, 4, 7),
    (5, 9, 6), (4, 7, 5), (10, 1, 10), (3, 5, 6), (2, 9, 3), (65535, 65535, 65535), (1, 65535, 65535), (65535, 1, 0))


def rows_up_to(letters, longest):
    return [list(each) for size in range(longest + 1) for each in itertools.product(letters, repeat=size)]


def told(pairs_of_rows, costs, like=0, kind=0):
    """Distances of many pairs, a list of calls for some of them at a time."""
    gap, other, swap = costs
    found = []
    for k in range(0, len(pairs_of_rows), 15):
        found += ask(*[distance(s, t, like, kind, gap, other, swap) for s, t in pairs_of_rows[k:k + 15]])
    return [answer[0] for answer in found]


class SearchTest(unittest.TestCase):
    def test_all_short_rows(self):
        # Longer rows than these on the way gain nothing: what is taken out can be taken out first.
        rows = rows_up_to((7, 8, 9), 3)
        for costs in COSTS:
            for s in rows[::2]:
                known = models.cheapest(s, (7, 8, 9), *costs, longest=5)
                wanted = [known[tuple(t)] for t in rows]
                self.assertEqual(told([(s, t) for t in rows], costs), wanted, (s, costs))

    def test_longer_rows(self):
        chance = random.Random(12)
        for costs in ((1, 1, 1), (2, 3, 2), (2, 5, 3), (3, 1, 3), (4, 7, 5), (1, 2, 0), (2, 5, 0)):
            for letters, size, turns in (((7, 8), 6, 3), ((7, 8, 9, 6), 4, 3)):
                for turn in range(turns):
                    s = [chance.choice(letters) for k in range(size)]
                    known = models.cheapest(s, letters, *costs, longest=size + 1)
                    others = [t for t in rows_up_to(letters, size) if len(t) >= size - 1]
                    others = chance.sample(others, min(30, len(others)))
                    self.assertEqual(told([(s, t) for t in others], costs), [known[tuple(t)] for t in others])

    def test_swap_over_what_is_taken_out_and_put_in(self):
        found = ask(distance("ab", "ba", swap=1), distance("ab", "ba"), distance("axb", "ba", other=9, swap=1),
                    distance("ab", "bxa", other=9, swap=1), distance("axxb", "byya", gap=2, other=9, swap=3),
                    distance("ca", "abc", swap=1), distance("abcd", "badc", swap=1), distance("abc", "cab", swap=1))
        self.assertEqual(found, [[1], [2], [2], [2], [11], [2], [2], [2]])

    def test_other_above_two_gaps_is_never_met(self):
        found = ask(distance("a", "b", gap=2, other=3), distance("a", "b", gap=2, other=4), distance("a", "b", gap=2, other=5),
                    distance("a", "b", gap=2, other=65535))
        self.assertEqual(found, [[3], [4], [4], [4]])

    def test_swap_above_two_gaps_is_never_met(self):
        found = ask(*[distance("ab", "ba", gap=2, other=65535, swap=swap) for swap in (2, 3, 4, 5, 65535)])
        self.assertEqual(found, [[2], [3], [4], [4], [4]])


class MetricTest(unittest.TestCase):
    def test_nought_just_for_rows_that_are_alike(self):
        rows = rows_up_to((7, 8), 3)
        for costs in COSTS[:8]:
            for s in rows:
                wanted = [s == t for t in rows]
                self.assertEqual([least == 0 for least in told([(s, t) for t in rows], costs)], wanted)

    def test_both_ways_and_by_way_of_a_third(self):
        chance = random.Random(13)
        for turn in range(120):
            gap = chance.randrange(1, 8)
            costs = (gap, chance.randrange(1, 20), chance.choice([0, gap, gap + chance.randrange(8)]))
            s, t, u = [[chance.choice((5, 6, 7, 8)) for k in range(chance.randrange(8))] for row in range(3)]
            st, ts, tu, su = told([(s, t), (t, s), (t, u), (s, u)], costs)
            self.assertEqual(st, ts)
            self.assertLessEqual(su, st + tu, (s, t, u, costs))

    def test_empty_texts(self):
        found = ask(distance("", ""), distance("", "abc", gap=5), distance("abc", "", gap=5), distance("abc", "abc", gap=5))
        self.assertEqual(found, [[0], [15], [15], [0]])


class UnitsTest(unittest.TestCase):
    BOOK = written(
        {0: {0x301: 230, 0x323: 220}, 2: {0x301: 4, 0x323: 4}, 4: {(65, 90): 10, (97, 122): 10, 32: 18, 0x301: 4},
         6: {10: 30, 13: 15}, 13: {0x212A: flags(15)}},
        {0: {0xE9: (0x65, 0x301), 0x212A: (75,)}, 1: {0xFB01: (102, 105)}, 5: {69: (101,), 75: (107,), 0xDF: (115, 115)}})

    def test_each_kind(self):
        s, t = "ab cd\nef", "ab xd\nef"
        found = ask_by(self.BOOK, *[distance(s, t, kind=kind) for kind in range(4)])
        self.assertEqual(found, [[1], [1], [1], [1]])
        s, t = "ab cd\nef", "abcd\nef"
        found = ask_by(self.BOOK, *[distance(s, t, kind=kind, other=9) for kind in range(4)])
        self.assertEqual(found, [[1], [1], [4], [2]])

    def test_clusters_are_one_unit(self):
        s, t = [0x65, 0x301, 0x61], [0x61, 0x65, 0x301]
        found = ask_by(self.BOOK, distance(s, t, kind=1, gap=3, other=5, swap=4), distance(s, t, gap=3, other=5, swap=4),
                       distance([0x65], [0x65, 0x301], kind=1, gap=3, other=5), distance([0x65], [0x65, 0x301], gap=3, other=5))
        self.assertEqual(found, [[4], [6], [5], [3]])

    def test_each_like(self):
        s, t = [0xE9, 69, 0xFB01], [0x65, 0x301, 101, 102, 105]
        found = ask_by(self.BOOK, *[distance(s, t, like=like, kind=1, gap=2, other=3) for like in range(4)])
        self.assertEqual(found, [[3 + 3 + 3 + 2], [3 + 3 + 2], [3 + 2], [3 + 2]])
        found = ask_by(self.BOOK, *[distance(s, t, like=like, kind=3, gap=2, other=3) for like in range(4)])
        self.assertEqual(found, [[3], [3], [3], [0]])

    def test_units_are_alike_by_their_own_marks(self):
        # By every place a letter with its mark is one unit or two, and one is not alike two.
        found = ask_by(self.BOOK, distance([0xE9], [0x65, 0x301], like=1), distance([0xE9], [0x65, 0x301], like=1, kind=1),
                       distance([0xDF], "ss", like=2), distance([0xDF], "ss", like=2, kind=2))
        self.assertEqual(found, [[2], [0], [2], [0]])

    def test_lines_with_their_ends(self):
        found = ask_by(self.BOOK, distance("a\r\nb", "a\nb", kind=3), distance("a\r\nb", "a\r\nb\n", kind=3),
                       distance("a\nb\nc\n", "b\na\nc\n", kind=3, swap=1), distance("a\nb\nc\n", "b\na\nc\n", kind=3))
        self.assertEqual(found, [[1], [1], [1], [2]])


class LimitTest(unittest.TestCase):
    def test_met_and_exceeded(self):
        found = ask(*[distance("abc", "xyz", gap=3, other=4, limit=limit) for limit in (0, 11, 12, 13, 4294967295)])
        self.assertEqual(found, [[-2], [-2], [12], [12], [12]])
        self.assertEqual(ask(distance("abc", "abc", limit=0), distance("", "", limit=0)), [[0], [0]])

    def test_greatest_distance(self):
        most = 65535 * 48
        found = ask(distance("a" * 48, "b" * 48, gap=65535, other=65535, limit=most),
                    distance("a" * 48, "b" * 48, gap=65535, other=65535, limit=most - 1))
        self.assertEqual(found, [[most], [-2]])


if __name__ == "__main__":
    unittest.main()

"""K5 and K6: alignments gone through step by step and held against all there are; the longest common rows."""

import itertools
import random
import unittest

from tests import models
from tests.calls import align, ask, ask_by, common, counted, distance, scalars
from tests.sample import ACUTE, BOOK, DOT, E, E_ACUTE, LIGATURE, units

# other below, equal to and above two gaps; the least and the greatest of both
COSTS = ((1, 1), (2, 3), (1, 2), (3, 6), (1, 3), (2, 5), (3, 1), (65535, 1), (1, 65535), (65535, 65535), (32767, 65535), (2, 4))
LETTERS = scalars("aAb e\r\n") + [E, E_ACUTE, 0xC9, ACUTE, DOT, 0xDF, 115, LIGATURE, 102, 105, 0xFF21]


def rows_up_to(letters, longest):
    return [list(each) for size in range(longest + 1) for each in itertools.product(letters, repeat=size)]


def texts(chance, longest):
    """Two texts of few letters, so that some of their units are alike."""
    some = chance.sample(LETTERS, 5)
    return [[chance.choice(some) for k in range(chance.randrange(longest + 1))] for text in range(2)]


class AlignTest(unittest.TestCase):
    def gone_through(self, steps, s, t):
        """That the steps make the one row of units the other."""
        i = j = 0
        for step in steps:
            self.assertIn(step, (0, 1, 2, 3))
            if step in (0, 1):
                self.assertEqual(s[i] == t[j], step == 0)
            i += step != 3
            j += step != 2
        self.assertEqual((i, j), (len(s), len(t)))

    def test_steps(self):
        found = ask(align("abc", "abc"), align("abc", "axc"), align("abc", "ac"), align("ac", "abc"), align("ab", "ba"),
                    align("ab", "ba", gap=1, other=3), align("kitten", "sitting"), align("kitten", "sitting", gap=2, other=5))
        self.assertEqual([counted(answer) for answer in found], [
            [0, 0, 0], [0, 1, 0], [0, 2, 0], [0, 3, 0], [1, 1], [2, 0, 3], [1, 0, 0, 0, 1, 0, 3], [2, 3, 0, 0, 0, 2, 3, 0, 3]])

    def test_answer_tells_how_many_steps(self):
        self.assertEqual(ask(align("abc", "ab"), align("", "")), [[0, 3, 0, 0, 2], [0, 0]])

    def test_empty_rows(self):
        for gap, other in COSTS:
            found = ask(align("", "", gap=gap, other=other), align("ab", "", gap=gap, other=other), align("", "ab", gap=gap, other=other))
            self.assertEqual([counted(answer) for answer in found], [[], [2, 2], [3, 3]])

    def test_of_one_cost_the_first_step_that_can_still_meet_it(self):
        # Of two gaps and another, put in its place goes first; else taken out goes ahead of put in.
        found = ask(align("a", "b", gap=2, other=3), align("a", "b", gap=2, other=4), align("a", "b", gap=2, other=5))
        self.assertEqual([counted(answer) for answer in found], [[1], [1], [2, 3]])
        found = ask(align("ab", "b"), align("aa", "a"), align("a", "aa"), align("ab", "xab"), align("ab", "c"), align("c", "ab"))
        self.assertEqual([counted(answer) for answer in found], [[2, 0], [0, 2], [0, 3], [3, 0, 0], [1, 2], [1, 3]])
        found = ask(align("abcb", "bcab", gap=1, other=3), align("xay", "ya", gap=1, other=2), align("ay", "xyax", gap=1, other=2))
        self.assertEqual([counted(answer) for answer in found], [[2, 0, 0, 3, 0], [1, 0, 2], [1, 0, 3, 3]])

    def test_all_short_rows(self):
        rows = rows_up_to((7, 8), 3) + [[7, 8, 9, 7], [9, 7, 8, 8], [9, 9], [7, 9, 7]]
        for gap, other in COSTS:
            for s in rows:
                found = [counted(answer) for k in range(0, len(rows), 9)
                         for answer in ask(*[align(s, t, gap=gap, other=other) for t in rows[k:k + 9]])]
                self.assertEqual(found, [models.aligned(s, t, gap, other) for t in rows], (s, gap, other))

    def test_each_kind_and_like(self):
        chance = random.Random(21)
        for kind in range(4):
            for like in range(4):
                for turn in range(8):
                    s, t = texts(chance, 5)
                    gap, other = chance.choice(COSTS)
                    asked = {"like": like, "kind": kind, "gap": gap, "other": other}
                    answer, least = ask_by(BOOK, align(s, t, **asked), distance(s, t, **asked))
                    rows = units(like, kind, s), units(like, kind, t)
                    self.gone_through(counted(answer), *rows)
                    self.assertEqual([models.steps_cost(counted(answer), gap, other)], least)
                    self.assertEqual(counted(answer), models.aligned(*rows, gap, other), (s, t, asked))

    def test_units_of_each_kind(self):
        s, t = [97, 32, E, ACUTE, 98, 10, 98], [97, 32, E_ACUTE, 98, 10, 97]
        found = ask_by(BOOK, *[align(s, t, like=1, kind=kind, other=2) for kind in range(4)])
        self.assertEqual([counted(answer) for answer in found], [
            [0, 0, 1, 2, 0, 0, 1], [0, 0, 0, 0, 0, 1], [0, 0, 0, 0, 1], [0, 1]])

    def test_units_of_each_like(self):
        s, t = [E_ACUTE, 0x41, LIGATURE], [E, ACUTE, 97, 102, 105]
        found = ask_by(BOOK, *[align(s, t, like=like, kind=1, gap=1, other=3) for like in range(4)])
        self.assertEqual([counted(answer) for answer in found], [
            [2, 2, 2, 3, 3, 3, 3], [0, 2, 2, 3, 3, 3], [0, 0, 2, 3, 3], [0, 0, 2, 3, 3]])
        found = ask_by(BOOK, *[align(s, t, like=like, kind=3) for like in range(4)])
        self.assertEqual([counted(answer) for answer in found], [[1], [1], [1], [0]])

    def test_long_rows_at_the_distance(self):
        chance = random.Random(22)
        for gap, other in COSTS:
            s, t = [[chance.choice((7, 8, 9)) for k in range(chance.choice((30, 47, 48)))] for text in range(2)]
            answer, least = ask(align(s, t, gap=gap, other=other), distance(s, t, gap=gap, other=other))
            self.gone_through(counted(answer), s, t)
            self.assertEqual([models.steps_cost(counted(answer), gap, other)], least)

    def test_longest_rows(self):
        found = ask(align("a" * 48, "a" * 48), align("a" * 48, "b" * 48), align("a" * 48, "b" * 48, other=3), align("a" * 48, ""),
                    align("", "a" * 48))
        self.assertEqual([counted(answer) for answer in found], [[0] * 48, [1] * 48, [2] * 48 + [3] * 48, [2] * 48, [3] * 48])


class CommonTest(unittest.TestCase):
    def test_some(self):
        found = ask(common("abcd", "axbycz"), common("abc", "cba"), common("abc", "xyz"), common("", ""), common("", "a"), common("a", ""),
                    common("abcabba", "cbabac"), common("a" * 48, "a" * 48), common("ab" * 24, "ba" * 24), common("a" * 48, "b" * 48))
        self.assertEqual(found, [[3], [1], [0], [0], [0], [0], [4], [48], [47], [0]])

    def test_all_short_rows(self):
        rows = rows_up_to((7, 8), 4) + [[7, 9, 8], [9, 7, 8, 9, 7], [8, 9, 7, 7, 9, 8]]
        for s in rows:
            found = [answer for k in range(0, len(rows), 9) for answer in ask(*[common(s, t) for t in rows[k:k + 9]])]
            self.assertEqual(found, [[models.longest_common(s, t)] for t in rows], s)

    def test_each_kind_and_like(self):
        chance = random.Random(23)
        for kind in range(4):
            for like in range(4):
                for turn in range(10):
                    s, t = texts(chance, 8)
                    wanted = models.longest_common(units(like, kind, s), units(like, kind, t))
                    self.assertEqual(ask_by(BOOK, common(s, t, like, kind)), [[wanted]], (s, t, like, kind))

    def test_units_of_each_kind_and_like(self):
        s, t = [97, 32, E, ACUTE, 98, 10, 98], [97, 32, E_ACUTE, 98, 10, 97]
        found = ask_by(BOOK, *[common(s, t, like, kind) for like in range(2) for kind in range(4)])
        self.assertEqual(found, [[4], [4], [3], [0], [4], [5], [4], [1]])
        s, t = [E_ACUTE, 0x41, LIGATURE], [E, ACUTE, 97, 102, 105]
        self.assertEqual(ask_by(BOOK, *[common(s, t, like, 1) for like in range(4)]), [[0], [1], [2], [2]])
        self.assertEqual(ask_by(BOOK, *[common(s, t, like, 3) for like in range(4)]), [[0], [0], [0], [1]])


if __name__ == "__main__":
    unittest.main()

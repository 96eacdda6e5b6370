"""K8: near tells what is within the limit and ends first; of these the least distance; of these the greatest beginning."""

import random
import unittest

from tests import models
from tests.calls import ask, ask_by, borders, distance, near, scalars, written

BOOK = written({2: {0x301: 4}, 4: {(97, 122): 10, 32: 18, 0x301: 4}, 6: {10: 30}}, {5: {65: (97,), 66: (98,)}})


class NearTest(unittest.TestCase):
    def test_least_end(self):
        found = ask(near("abc", "xxabcxabc"), near("abc", "xxabcxabc", start=3), near("abc", "xxabxabc", limit=1),
                    near("abcd", "xabdxabcd", limit=1))
        self.assertEqual(found, [[1, 2, 5, 0], [1, 6, 9, 0], [1, 2, 4, 1], [1, 1, 4, 1]])

    def test_of_one_end_the_least_distance(self):
        # Up to 3: "ab" from 1 is 1 away, "xab" 2 away, "b" 2 away.
        self.assertEqual(ask(near("abc", "xab", limit=1)), [[1, 1, 3, 1]])
        # Up to 4: "xbcd" is 3 away, "bcd" 4 away, though it begins later.
        self.assertEqual(ask(near("abcd", "xbcd", gap=4, other=3, limit=5)), [[1, 0, 4, 3]])
        # Up to 2: "b" alone is 2 away, "ab" 1 away.
        self.assertEqual(ask(near("abc", "ab", gap=1, other=9, limit=1)), [[1, 0, 2, 1]])

    def test_of_one_distance_the_greatest_beginning(self):
        # A unit put in the place of one may cost what a unit taken out does: then "b" is as near as "xb".
        self.assertEqual(ask(near("ab", "xb", limit=1, other=1)), [[1, 1, 2, 1]])
        self.assertEqual(ask(near("ab", "ba", limit=1, other=1, swap=1)), [[1, 0, 1, 1]])
        self.assertEqual(ask(near("aab", "xxb", gap=1, other=1, limit=2)), [[1, 2, 3, 2]])
        self.assertEqual(ask(near("aab", "xxb", gap=3, other=2, limit=4)), [[1, 0, 3, 4]])

    def test_needle_that_the_limit_makes_nothing_of(self):
        found = ask(near("abc", "abcabc", limit=3), near("abc", "abcabc", limit=3, start=2), near("abc", "abcabc", limit=9, start=6),
                    near("abc", "abcabc", gap=2, limit=5), near("", "abc"), near("", "abc", start=3), near("", ""),
                    near("abc", "", limit=3), near("abc", "", limit=2))
        self.assertEqual(found, [[1, 0, 0, 3], [1, 2, 2, 3], [1, 6, 6, 3], [1, 0, 1, 4], [1, 0, 0, 0],
                                 [1, 3, 3, 0], [1, 0, 0, 0], [1, 0, 0, 3], [0]])

    def test_first_border_from_the_place_on(self):
        text = [97, 0x301, 0x301, 98, 0x301]
        found = ask_by(BOOK, *[near([], text, kind=1, start=start) for start in range(6)])
        self.assertEqual(found, [[1, 0, 0, 0]] + [[1, 3, 3, 0]] * 3 + [[1, 5, 5, 0]] * 2)
        found = ask_by(BOOK, near("x", "ab cd", kind=2, start=1, limit=5), near("cd", "ab cd", kind=2, start=1),
                       near("cd", "ab cd", kind=2, start=4))
        self.assertEqual(found, [[1, 2, 2, 1], [1, 3, 5, 0], [0]])

    def test_none_within_the_limit(self):
        found = ask(near("abc", "xyz", limit=2), near("abc", "xyz", limit=3), near("ab", "ba"), near("ab", "ab", start=1),
                    near("ab", "ab", start=2))
        self.assertEqual(found, [[0], [1, 0, 0, 3], [0], [0], [0]])

    def test_swap(self):
        found = ask(near("abcd", "xacbdx", gap=2, other=3, swap=2, limit=2), near("abcd", "xacbdx", gap=2, other=3, limit=2),
                    near("abcd", "xacbdx", gap=2, other=3, swap=3, limit=2), near("abcd", "xacbdx", gap=2, other=3, swap=3, limit=3))
        self.assertEqual(found, [[1, 1, 5, 2], [0], [0], [1, 1, 5, 3]])

    def test_each_like(self):
        found = ask_by(BOOK, *[near("ab", "xABx", like=like) for like in range(4)])
        self.assertEqual(found, [[0], [0], [1, 1, 3, 0], [1, 1, 3, 0]])

    def test_units_are_those_of_the_whole_text(self):
        # Between the borders 2 and 3 of a text of words "c" would be a unit, but no border lies within "bc".
        found = ask_by(BOOK, near("c", "a bc", kind=2), near("bc", "a bc", kind=2), near("bc", "a bc\nbc", kind=3))
        self.assertEqual(found, [[0], [1, 2, 4, 0], [1, 5, 7, 0]])

    def test_random_against_all_pairs(self):
        chance = random.Random(14)
        for turn in range(80):
            text = [chance.choice(scalars("ab c\n") + [65, 0x301]) for k in range(chance.randrange(7))]
            needle = [chance.choice(scalars("ab c\n")) for k in range(chance.randrange(4))]
            gap = chance.randrange(1, 4)
            asked = {"like": chance.randrange(3), "kind": chance.choice([0, 1]), "gap": gap, "other": chance.randrange(1, 7),
                     "swap": chance.choice([0, gap, gap + 1])}
            cuts = borders(BOOK, asked["kind"], text)
            costs = {}
            for a in cuts:
                for b in cuts:
                    if a <= b:
                        costs[a, b] = ask_by(BOOK, distance(needle, text[a:b], **asked))[0][0]
            for start in range(len(text) + 1):
                limit = chance.randrange(8)
                wanted = models.nearest(cuts, start, limit, lambda a, b: costs[a, b])
                wanted = [1] + list(wanted) if wanted else [0]
                self.assertEqual(ask_by(BOOK, near(needle, text, start=start, limit=limit, **asked)), [wanted])

    def test_longest_texts(self):
        found = ask(near("a" * 48, "b" * 48, gap=1, other=1, swap=1, limit=47), near("a" * 48, "b" * 47 + "a", limit=47, swap=1),
                    near("ab" * 24, "ba" * 24, swap=1, limit=2))
        self.assertEqual(found, [[0], [1, 47, 48, 47], [1, 0, 46, 2]])


if __name__ == "__main__":
    unittest.main()

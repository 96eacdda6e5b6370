"""K1: every place of a needle and no other, by each kind and each like, from each place, both ways."""

import random
import unittest

from tests import models
from tests.calls import EMPTY, ask, ask_by, book, borders, every, find, pairs, scalars, written
from tests.sample import A, ACUTE, BOOK, DOT, E, E_ACUTE, F, I, LIGATURE, mark


class PlacesTest(unittest.TestCase):
    def test_overlapping(self):
        found = ask(every("aa", "aaaa", overlap=1), every("aa", "aaaa", overlap=0), every("aba", "ababab", overlap=1),
                    every("aba", "abababa", overlap=0), every("a", "bbb", overlap=1), every("a", "", overlap=0))
        self.assertEqual([pairs(answer) for answer in found], [
            [(0, 2), (1, 3), (2, 4)], [(0, 2), (2, 4)], [(0, 3), (2, 5)], [(0, 3), (4, 7)], [], []])

    def test_answer_tells_how_many_numbers(self):
        self.assertEqual(ask(every("a", "aba"), every("a", "b")), [[0, 4, 0, 1, 2, 3], [0, 0]])

    def test_each_place_behind_the_last_may_begin_at_its_end(self):
        self.assertEqual([pairs(answer) for answer in ask(every("ab", "abab", overlap=0), every("aa", "aaa", overlap=0))],
                         [[(0, 2), (2, 4)], [(0, 2)]])

    def test_forward(self):
        starts = (0, 1, 2, 3, 4, 5)
        found = ask(*[find("ab", "abxab", start=start) for start in starts])
        self.assertEqual(found, [[1, 0, 2], [1, 3, 5], [1, 3, 5], [1, 3, 5], [0], [0]])

    def test_back(self):
        starts = (0, 1, 2, 3, 4, 5)
        found = ask(*[find("ab", "abxab", start=start, back=1) for start in starts])
        self.assertEqual(found, [[0], [0], [1, 0, 2], [1, 0, 2], [1, 0, 2], [1, 3, 5]])

    def test_back_among_overlapping_places(self):
        found = ask(*[find("aa", "aaaa", start=start, back=1) for start in range(5)])
        self.assertEqual(found, [[0], [0], [1, 0, 2], [1, 1, 3], [1, 2, 4]])

    def test_needle_longer_than_text(self):
        self.assertEqual(ask(find("abc", "ab"), find("abc", ""), find("ab", "ab")), [[0], [0], [1, 0, 2]])

    def test_each_kind_of_borders(self):
        text = scalars("ab ") + [A, ACUTE] + scalars("\r\na")
        found = ask_by(BOOK, *[every("a", text, kind=kind) for kind in range(4)])
        self.assertEqual([pairs(answer) for answer in found], [[(0, 1), (3, 4), (7, 8)], [(0, 1), (7, 8)], [(7, 8)], [(7, 8)]])

    def test_each_like(self):
        text = [E, ACUTE, E_ACUTE, 0xC9, 0x45, ACUTE]
        found = ask_by(BOOK, *[every([E_ACUTE], text, like=like, kind=1) for like in range(4)])
        self.assertEqual([pairs(answer) for answer in found], [
            [(2, 3)], [(0, 2), (2, 3)], [(0, 2), (2, 3), (3, 4), (4, 6)], [(0, 2), (2, 3), (3, 4), (4, 6)]])

    def test_like_3_takes_apart_for_compatibility(self):
        text = [LIGATURE, F, I, 0xFF21]
        found = ask_by(BOOK, *[every("fi", text, like=like) for like in range(4)])
        self.assertEqual([pairs(answer) for answer in found], [[(1, 3)], [(1, 3)], [(1, 3)], [(0, 1), (1, 3)]])
        found = ask_by(BOOK, *[every("a", text, like=like) for like in range(4)])
        self.assertEqual([pairs(answer) for answer in found], [[], [], [], [(3, 4)]])

    def test_no_place_within_what_has_no_border(self):
        found = ask_by(BOOK, every("f", [LIGATURE], like=3), every("i", [LIGATURE], like=3), every("s", [0xDF], like=2),
                       every("ss", [0xDF], like=2), every("sss", [0xDF, 115], like=2), every("ss", [0xDF, 115], like=2))
        self.assertEqual([pairs(answer) for answer in found], [[], [], [], [(0, 1)], [(0, 2)], [(0, 1)]])

    def test_marks_in_another_order(self):
        found = ask_by(BOOK, every([E, DOT, ACUTE], [E, ACUTE, DOT], like=1), every([E, DOT, ACUTE], [E_ACUTE, DOT], like=1),
                       every([E, DOT, ACUTE], [E_ACUTE, DOT], like=0), every([E, ACUTE, ACUTE, DOT], [E, ACUTE, DOT, ACUTE], like=1))
        self.assertEqual([pairs(answer) for answer in found], [[(0, 3)], [(0, 2)], [], [(0, 4)]])

    def test_marks_of_each_class_move(self):
        for low, high in ((1, 2), (1, 254), (253, 254), (9, 10)):
            rows = written({0: {0x301: low, 0x302: high}, 2: {(0x301, 0x302): 4}})
            found = ask_by(rows, every([A, 0x301, 0x302], [A, 0x302, 0x301], like=1), every([A, 0x302, 0x301], [A, 0x301, 0x302], like=3))
            self.assertEqual([pairs(answer) for answer in found], [[(0, 3)], [(0, 3)]])
        rows = written({0: {(0x301, 0x302): 9}, 2: {(0x301, 0x302): 4}})
        self.assertEqual(pairs(ask_by(rows, every([A, 0x301, 0x302], [A, 0x302, 0x301], like=1))[0]), [])

    def test_marks_do_not_pass_letters(self):
        found = ask_by(BOOK, every([ACUTE, A, DOT], [DOT, A, ACUTE], like=1), every([ACUTE, DOT], [DOT, ACUTE], like=1))
        self.assertEqual([pairs(answer) for answer in found], [[], [(0, 2)]])

    def test_by_the_empty_book_each_like_is_the_scalars(self):
        for like in range(4):
            self.assertEqual([pairs(answer) for answer in ask(every("e", [E, E_ACUTE, 0x45], like=like))], [[(0, 1)]])

    def test_hangul_without_a_book(self):
        found = ask(*[every([0x1100, 0x1161], [0xAC00, 0x1100, 0x1161, 0xAC01], like=like, kind=1) for like in range(4)])
        self.assertEqual([pairs(answer) for answer in found], [[(1, 3)]] + [[(0, 1), (1, 3)]] * 3)

    def test_random_against_all_pairs(self):
        chance = random.Random(7)
        letters = [A, 0x41, E, E_ACUTE, 0xC9, ACUTE, DOT, F, I, LIGATURE, 32, 13, 10, 0xDF, 115]
        for turn in range(250):
            some = chance.sample(letters, 4)
            text = [chance.choice(some) for k in range(chance.randrange(9))]
            needle = [chance.choice(some) for k in range(chance.randrange(1, 3))]
            like, kind = chance.randrange(4), chance.randrange(4)
            cuts = borders(BOOK, kind, text)
            wanted = models.places(cuts, lambda a, b: mark(like, text[a:b]), mark(like, needle))
            self.held_everywhere(needle, text, like, kind, wanted)

    def held_everywhere(self, needle, text, like, kind, wanted):
        both = ask_by(BOOK, every(needle, text, like, kind, 1), every(needle, text, like, kind, 0))
        self.assertEqual(pairs(both[0]), wanted)
        apart, end = [], 0
        for place in wanted:
            if place[0] >= end:
                apart.append(place)
                end = place[1]
        self.assertEqual(pairs(both[1]), apart)
        for start in range(len(text) + 1):
            found = ask_by(BOOK, find(needle, text, like, kind, start, 0), find(needle, text, like, kind, start, 1))
            self.assertEqual(found[0], next(([1, a, b] for a, b in wanted if a >= start), [0]))
            self.assertEqual(found[1], next(([1, a, b] for a, b in reversed(wanted) if b <= start), [0]))

    def test_no_place_lies_in_another_and_ends_rise(self):
        chance = random.Random(8)
        for turn in range(120):
            text = [chance.choice([A, 0x41, ACUTE, 0xDF, 115, E_ACUTE]) for k in range(12)]
            needle = [chance.choice([A, 115, 0xDF]) for k in range(chance.randrange(1, 3))]
            for kind in (0, 1):
                found = pairs(ask_by(BOOK, every(needle, text, 2, kind))[0])
                for before, behind in zip(found, found[1:]):
                    self.assertLess(before[0], behind[0])
                    self.assertLess(before[1], behind[1])

    def test_longest_texts(self):
        found = ask(every("a" * 48, "a" * 48), every("a", "a" * 48), find("a", "a" * 48, start=48, back=1))
        self.assertEqual(pairs(found[0]), [(0, 48)])
        self.assertEqual(pairs(found[1]), [(k, k + 1) for k in range(48)])
        self.assertEqual(found[2], [1, 47, 48])

    def test_compatibility_that_folds_twice(self):
        # 1 folds to 2, that is taken apart into 3, that folds to 4, that is taken apart into 5, where it ends.
        rows = written({}, {1: {2: (3,), 4: (5,)}, 5: {1: (2,), 3: (4,)}})
        found = ask_by(rows, *[every([5], [1, 2, 3, 4, 5], like=like) for like in range(4)])
        self.assertEqual([pairs(answer) for answer in found], [
            [(4, 5)], [(4, 5)], [(4, 5)], [(0, 1), (1, 2), (2, 3), (3, 4), (4, 5)]])
        found = ask_by(rows, *[every([2], [1, 2, 3, 4, 5], like=like) for like in range(3)])
        self.assertEqual([pairs(answer) for answer in found], [[(1, 2)], [(1, 2)], [(0, 1), (1, 2)]])

    def test_long_marks_stay_quick(self):
        # One scalar comes to 2916 in its mark by like 3; a text of 48 such is still answered.
        rows = written({}, {1: {2: (3,) * 18, 4: (5,) * 18}, 5: {1: (2,) * 3, 3: (4,) * 3}})
        found = ask_by(rows, every([1] * 48, [1] * 48, like=3), every([1] * 40, [1] * 48, like=3))
        self.assertEqual(pairs(found[0]), [(0, 48)])
        self.assertEqual(pairs(found[1]), [(k, k + 40) for k in range(9)])


class BookInForceTest(unittest.TestCase):
    def test_a_list_begins_without_records(self):
        self.assertEqual(ask(find([E_ACUTE], [E, ACUTE], like=1)), [[0]])
        self.assertEqual(ask_by(BOOK, find([E_ACUTE], [E, ACUTE], like=1)), [[1, 0, 2]])
        self.assertEqual(ask(find([E_ACUTE], [E, ACUTE], like=1)), [[0]])

    def test_another_book_takes_its_place_whole(self):
        found = ask_by(BOOK, find([E_ACUTE], [E, ACUTE], like=1), book(EMPTY), find([E_ACUTE], [E, ACUTE], like=1))
        self.assertEqual(found, [[1, 0, 2], [0], [0]])


if __name__ == "__main__":
    unittest.main()

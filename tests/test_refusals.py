"""Refusals: each at its edge, the first of several, and that nothing has changed behind them."""

import unittest

from tests.calls import EMPTY, ask, ask_by, book, distance, every, find, judged, near, pairs, written

NO_SCALARS = (55296, 57343, 1114112, 4294967295)
EDGES = (0, 55295, 57344, 1114111)
LONG = "a" * 49
MOST = 4294967295


def single_ranges(count, number=1):
    """So many records of one property, no two of which touch."""
    return [each for k in range(count) for each in (number, 2 * k + 0x20000, 2 * k + 0x20000, 1)]


class SizeTest(unittest.TestCase):
    def test_books(self):
        self.assertEqual(judged((single_ranges(2048), [], [], [])), [0])
        self.assertEqual(judged((single_ranges(2048) + [0], [], [], [])), [-6])
        self.assertEqual(judged((single_ranges(1024), [6, 65, 1, 66] * 1024, [], [])), [-5, 10, 1])
        self.assertEqual(judged((single_ranges(1024), [6, 65, 1, 66] * 1024, [1], [])), [-6])
        self.assertEqual(judged((single_ranges(2047), [6, 65, 1, 66], [], [])), [0])
        self.assertEqual(judged((single_ranges(2046), [6, 65, 1, 66], [], [90, 122, 122, 122])), [-5, 16, 1])
        self.assertEqual(judged((single_ranges(2047), [6, 65, 1, 66], [], [1])), [-6])
        self.assertEqual(judged(([0] * 9000, [], [], [])), [-6])

    def test_each_row_counts(self):
        whole = [0] * 8192
        for k in range(4):
            rows = [[], [], [], []]
            rows[k] = whole
            self.assertEqual(judged(tuple(rows))[0], -5)
            rows[(k + 1) % 4] = [0]
            self.assertEqual(judged(tuple(rows)), [-6])

    def test_texts(self):
        found = ask(find("a" * 48, "b" * 48), find("a", LONG), find(LONG, "a"), every("a", LONG), every(LONG, "a"),
                    distance(LONG, ""), distance("", LONG), distance("a" * 48, "a" * 48), near("", LONG), near(LONG, ""),
                    near("a" * 48, "a" * 48))
        self.assertEqual(found, [[0], [-6], [-6], [-6], [-6], [-6], [-6], [0], [-6], [-6], [1, 0, 48, 0]])

    def test_much_longer_texts(self):
        self.assertEqual(ask(find("a", "a" * 3900)), [[-6]])

    def test_size_comes_before_all_else(self):
        long = [55296] * 49
        found = ask(find("", LONG, like=9, kind=9, start=99, back=9), every("", long, like=9, kind=9, overlap=9),
                    distance(long, "", like=9, kind=9, gap=0, other=0, swap=99999, limit=0),
                    near(long, "", like=9, kind=9, gap=0, other=0, swap=99999, start=99))
        self.assertEqual(found, [[-6]] * 4)


class ToldTest(unittest.TestCase):
    def calls(self, **asked):
        return (find("a", "a", **asked), every("a", "a", **asked), distance("a", "a", **asked), near("a", "a", **asked))

    def test_like_and_kind(self):
        right = [[1, 0, 1], [0, 2, 0, 1], [0], [1, 0, 1, 0]]
        for number in range(4):
            self.assertEqual(ask(*self.calls(like=number)), right)
            self.assertEqual(ask(*self.calls(kind=number)), right)
        for number in (4, 5, MOST):
            self.assertEqual(ask(*self.calls(like=number)), [[-1]] * 4)
            self.assertEqual(ask(*self.calls(kind=number)), [[-1]] * 4)

    def test_no_scalars(self):
        for number in NO_SCALARS:
            found = ask(find([number], "a"), find("a", [97, number]), every([97, number], "a"), every("a", [number]),
                        distance([number], "a"), distance("a", [number]), near([number], "a"), near("a", [number, 97]))
            self.assertEqual(found, [[-1]] * 8)

    def test_edges_of_scalars(self):
        for number in EDGES:
            found = ask(find([number], [97, number]), every([number], [number]), distance([number], "a"), near([number], [number]))
            self.assertEqual(found, [[1, 1, 2], [0, 2, 0, 1], [1], [1, 0, 1, 0]])

    def test_back_and_overlap(self):
        found = ask(find("a", "a", back=0), find("a", "a", start=1, back=1), find("a", "a", back=2), find("a", "a", back=MOST),
                    every("a", "a", overlap=0), every("a", "a", overlap=1), every("a", "a", overlap=2), every("a", "a", overlap=MOST))
        self.assertEqual(found, [[1, 0, 1], [1, 0, 1], [-1], [-1], [0, 2, 0, 1], [0, 2, 0, 1], [-1], [-1]])

    def test_from(self):
        found = ask(find("a", "aa", start=2), find("a", "aa", start=3), find("a", "aa", start=2, back=1), find("a", "aa", start=3, back=1),
                    find("a", "", start=0), find("a", "", start=1), near("a", "aa", start=2), near("a", "aa", start=3),
                    near("a", "", start=0, limit=1), near("a", "", start=1, limit=1), near("a", "aa", start=MOST, limit=MOST))
        self.assertEqual(found, [[0], [-1], [1, 1, 2], [-1], [0], [-1], [0], [-1], [1, 0, 0, 1], [-1], [-1]])

    def test_empty_needles(self):
        for like in range(4):
            for kind in range(4):
                found = ask(find("", "a", like, kind), find("", "", like, kind), find("", "a", like, kind, 1, 1),
                            every("", "a", like, kind, 0), every("", "", like, kind, 1))
                self.assertEqual(found, [[-1]] * 5)

    def test_costs(self):
        for gap, other, swap, fits in (
                (1, 1, 0, True), (65535, 65535, 65535, True), (0, 1, 0, False), (65536, 1, 0, False), (1, 0, 0, False), (1, 65536, 0, False),
                (1, 1, 1, True), (5, 1, 4, False), (5, 1, 5, True), (5, 1, 1, False), (5, 1, 65535, True), (5, 1, 65536, False),
                (65535, 1, 0, True), (65535, 1, 65534, False), (1, 65535, 0, True), (MOST, 1, 0, False), (1, MOST, 0, False), (1, 1, MOST, False)):
            costs = {"gap": gap, "other": other, "swap": swap}
            found = ask(distance("a", "a", **costs), near("a", "a", **costs))
            self.assertEqual(found, [[0], [1, 0, 1, 0]] if fits else [[-1], [-1]], costs)

    def test_told_comes_before_the_limit(self):
        found = ask(distance("a", "b", limit=0), distance("a", "b", limit=0, gap=0), distance("a", "b", limit=0, like=4),
                    distance("a", [55296], limit=0))
        self.assertEqual(found, [[-2], [-1], [-1], [-1]])


class NothingChangedTest(unittest.TestCase):
    BOOK = written({2: {0x301: 4}}, {0: {0xE9: (0x65, 0x301)}})
    PROOF = find([0xE9], [0x65, 0x301], like=1, kind=1)

    def test_a_refused_book_leaves_the_one_in_force(self):
        for refused, answer in (
                (([0] * 8193, [], [], []), [-6]), (([14, 65, 65, 1], [], [], []), [-5, 4, 0]),
                (([], [], [], [1]), [-5, 16, 0]), (written({0: {0x301: 230}}), [-5, 32, 0]),
                (written({}, {1: {0xE9: (65,), 0xEA: (65,)}, 6: {65: (66,), 66: (65,)}}), [-5, 25, 2])):
            self.assertEqual(ask_by(self.BOOK, self.PROOF, book(refused), self.PROOF), [[1, 0, 2], answer, [1, 0, 2]])

    def test_a_refused_first_book_leaves_the_one_without_records(self):
        self.assertEqual(ask(book(([14, 65, 65, 1], [], [], [])), self.PROOF), [[-5, 4, 0], [0]])

    def test_other_refused_calls(self):
        found = ask_by(self.BOOK, find("", ""), self.PROOF, every("", LONG), self.PROOF, distance("a", "b", limit=0), self.PROOF,
                       near("a", "b", start=2), self.PROOF)
        self.assertEqual(found, [[-1], [1, 0, 2], [-6], [1, 0, 2], [-2], [1, 0, 2], [-1], [1, 0, 2]])

    def test_each_call_behind_a_refused_one_is_found(self):
        found = ask(find("abc", LONG, like=7), every("a", "a"), book(([0] * 8193, [], [], [])), distance("a", "b"), near([55296], "a"),
                    book(EMPTY), every("b", "b"))
        self.assertEqual(found, [[-6], [0, 2, 0, 1], [-6], [1], [-1], [0], [0, 2, 0, 1]])

    def test_calls_go_by_the_book_that_was_taken(self):
        before, behind = ask(every([0xE9], [0x65, 0x301], 1)), ask_by(self.BOOK, every([0xE9], [0x65, 0x301], 1))
        self.assertEqual([pairs(before[0]), pairs(behind[0])], [[], [(0, 2)]])
        calls = (distance([0xE9], [0x65, 0x301], like=1, kind=1), near([0xE9], [0x61, 0x65, 0x301], like=1, kind=1))
        self.assertEqual(ask(*calls), [[2], [0]])
        self.assertEqual(ask_by(self.BOOK, *calls), [[0], [1, 1, 3, 0]])


if __name__ == "__main__":
    unittest.main()

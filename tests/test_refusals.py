"""Refusals: each at its edge, the first of several, and that nothing has changed behind them."""

import unittest

from tests.calls import (
    EMPTY, align, ask, ask_by, book, column, common, diff, distance, every, find, judged, near, pairs, patch, written)

NO_SCALARS = (55296, 57343, 1114112, 4294967295)
EDGES = (0, 55295, 57344, 1114111)
LONG = "a" * 49
MOST = 4294967295


def single_ranges(count, number=1):
    """So many records of one property, no two of which touch."""
    return [each for k in range(count) for each in (number, 2 * k + 0x20000, 2 * k + 0x20000, 1)]


class SizeTest(unittest.TestCase):
    def test_books(self):
        self.assertEqual(judged((single_ranges(2048), [], [], [])), [0])
        self.assertEqual(judged((single_ranges(2048) + [0], [], [], [])), [-6])
        self.assertEqual(judged((single_ranges(1024), [6, 65, 1, 66] * 1024, [], [])), [-5, 10, 1])
        self.assertEqual(judged((single_ranges(1024), [6, 65, 1, 66] * 1024, [1], [])), [-6])
        self.assertEqual(judged((single_ranges(2047), [6, 65, 1, 66], [], [])), [0])
        self.assertEqual(judged((single_ranges(2046), [6, 65, 1, 66], [], [90, 122, 122, 122])), [-5, 16, 1])
        self.assertEqual(judged((single_ranges(2047), [6, 65, 1, 66], [], [1])), [-6])
        self.assertEqual(judged(([0] * 9000, [], [], [])), [-6])

    def test_each_row_counts(self):
        whole = [0] * 8192
        for k in range(4):
            rows = [[], [], [], []]
            rows[k] = whole
            self.assertEqual(judged(tuple(rows))[0], -5)
            rows[(k + 1) % 4] = [0]
            self.assertEqual(judged(tuple(rows)), [-6])

    def test_texts(self):
        found = ask(find("a" * 48, "b" * 48), find("a", LONG), find(LONG, "a"), every("a", LONG), every(LONG, "a"),
                    distance(LONG, ""), distance("", LONG), distance("a" * 48, "a" * 48), near("", LONG), near(LONG, ""),
                    near("a" * 48, "a" * 48))
        self.assertEqual(found, [[0], [-6], [-6], [-6], [-6], [-6], [-6], [0], [-6], [-6], [1, 0, 48, 0]])

    def test_texts_between_which_something_is_told(self):
        found = ask(align(LONG, ""), align("", LONG), common(LONG, ""), common("", LONG), diff(LONG, ""), diff("", LONG),
                    patch(LONG, [49, 49]), patch(LONG, [49, 49], 1))
        self.assertEqual(found, [[-6]] * 8)
        whole = "a" * 48
        found = ask(align(whole, whole), common(whole, whole), diff(whole, whole), patch(whole, [48, 48]), patch(whole, [48, 48], 1))
        self.assertEqual(found, [[0, 48] + [0] * 48, [48], [0, 2, 48, 48], [0, 48] + [97] * 48, [0, 48] + [97] * 48])

    def test_rows_of_differences(self):
        row = [0, 507, 0, 0, 507] + [98] * 507
        self.assertEqual([len(row), ask(patch("", row))], [512, [[0, 507] + [98] * 507]])
        row = [0, 508, 0, 0, 508] + [98] * 508
        self.assertEqual([len(row), ask(patch("", row))], [513, [[-6]]])
        self.assertEqual(ask(patch("", [0] * 512), patch("", [0] * 513), patch("", [0] * 3900), patch("", [0] * 513, 1)),
                         [[-5, 4, 0], [-6], [-6], [-6]])

    def test_much_longer_texts(self):
        self.assertEqual(ask(find("a", "a" * 3900)), [[-6]])
        self.assertEqual(ask(diff("a" * 3000, "a")), [[-6]])

    def test_size_comes_before_all_else(self):
        long = [55296] * 49
        found = ask(find("", LONG, like=9, kind=9, start=99, back=9), every("", long, like=9, kind=9, overlap=9),
                    distance(long, "", like=9, kind=9, gap=0, other=0, swap=99999, limit=0),
                    near(long, "", like=9, kind=9, gap=0, other=0, swap=99999, start=99))
        self.assertEqual(found, [[-6]] * 4)
        found = ask(align(long, "", like=9, kind=9, gap=0, other=0), common("", long, like=9, kind=9), diff(long, long, kind=9),
                    patch(long, [], undo=9), patch([55296], [1] * 513, undo=9))
        self.assertEqual(found, [[-6]] * 5)


class ToldTest(unittest.TestCase):
    def calls(self, **asked):
        return (find("a", "a", **asked), every("a", "a", **asked), distance("a", "a", **asked), near("a", "a", **asked),
                align("a", "a", **asked), common("a", "a", **asked))

    def test_like_and_kind(self):
        right = [[1, 0, 1], [0, 2, 0, 1], [0], [1, 0, 1, 0], [0, 1, 0], [1]]
        for number in range(4):
            self.assertEqual(ask(*self.calls(like=number)), right)
            self.assertEqual(ask(*self.calls(kind=number)), right)
            self.assertEqual(ask(diff("a", "a", kind=number)), [[0, 2, 1, 1]])
        for number in (4, 5, MOST):
            self.assertEqual(ask(*self.calls(like=number)), [[-1]] * 6)
            self.assertEqual(ask(*self.calls(kind=number)), [[-1]] * 6)
            self.assertEqual(ask(diff("a", "a", kind=number)), [[-1]])

    def test_no_scalars(self):
        for number in NO_SCALARS:
            found = ask(find([number], "a"), find("a", [97, number]), every([97, number], "a"), every("a", [number]),
                        distance([number], "a"), distance("a", [number]), near([number], "a"), near("a", [number, 97]))
            self.assertEqual(found, [[-1]] * 8)
            found = ask(align([number], "a"), align("a", [97, number]), common([97, number], "a"), common("a", [number]), diff([number], "a"),
                        diff("a", [number]), patch([number], [1, 1]), patch([97, number], [2, 2], 1))
            self.assertEqual(found, [[-1]] * 8)

    def test_edges_of_scalars(self):
        for number in EDGES:
            found = ask(find([number], [97, number]), every([number], [number]), distance([number], "a"), near([number], [number]))
            self.assertEqual(found, [[1, 1, 2], [0, 2, 0, 1], [1], [1, 0, 1, 0]])
            found = ask(align([number], [number]), common([number], [number]), diff([number], ""), patch([number], [1, 1]))
            self.assertEqual(found, [[0, 1, 0], [1], [0, 6, 1, 0, 0, 1, 0, number], [0, 1, number]])

    def test_back_and_overlap(self):
        found = ask(find("a", "a", back=0), find("a", "a", start=1, back=1), find("a", "a", back=2), find("a", "a", back=MOST),
                    every("a", "a", overlap=0), every("a", "a", overlap=1), every("a", "a", overlap=2), every("a", "a", overlap=MOST))
        self.assertEqual(found, [[1, 0, 1], [1, 0, 1], [-1], [-1], [0, 2, 0, 1], [0, 2, 0, 1], [-1], [-1]])

    def test_from(self):
        found = ask(find("a", "aa", start=2), find("a", "aa", start=3), find("a", "aa", start=2, back=1), find("a", "aa", start=3, back=1),
                    find("a", "", start=0), find("a", "", start=1), near("a", "aa", start=2), near("a", "aa", start=3),
                    near("a", "", start=0, limit=1), near("a", "", start=1, limit=1), near("a", "aa", start=MOST, limit=MOST))
        self.assertEqual(found, [[0], [-1], [1, 1, 2], [-1], [0], [-1], [0], [-1], [1, 0, 0, 1], [-1], [-1]])

    def test_empty_needles(self):
        for like in range(4):
            for kind in range(4):
                found = ask(find("", "a", like, kind), find("", "", like, kind), find("", "a", like, kind, 1, 1),
                            every("", "a", like, kind, 0), every("", "", like, kind, 1))
                self.assertEqual(found, [[-1]] * 5)

    def test_costs(self):
        for gap, other, swap, fits in (
                (1, 1, 0, True), (65535, 65535, 65535, True), (0, 1, 0, False), (65536, 1, 0, False), (1, 0, 0, False), (1, 65536, 0, False),
                (1, 1, 1, True), (5, 1, 4, False), (5, 1, 5, True), (5, 1, 1, False), (5, 1, 65535, True), (5, 1, 65536, False),
                (65535, 1, 0, True), (65535, 1, 65534, False), (1, 65535, 0, True), (MOST, 1, 0, False), (1, MOST, 0, False), (1, 1, MOST, False)):
            costs = {"gap": gap, "other": other, "swap": swap}
            found = ask(distance("a", "a", **costs), near("a", "a", **costs))
            self.assertEqual(found, [[0], [1, 0, 1, 0]] if fits else [[-1], [-1]], costs)

    def test_costs_of_alignments(self):
        for gap, other, fits in (
                (1, 1, True), (65535, 65535, True), (0, 1, False), (65536, 1, False), (1, 0, False), (1, 65536, False), (65535, 1, True),
                (1, 65535, True), (MOST, 1, False), (1, MOST, False), (0, 0, False)):
            self.assertEqual(ask(align("a", "a", gap=gap, other=other)), [[0, 1, 0] if fits else [-1]], (gap, other))

    def test_undo(self):
        row = [1, 2, 1, 0, 1, 98]
        found = ask(patch("a", row, 0), patch("ab", row, 1), patch("a", row, 2), patch("ab", row, 3), patch("ab", row, MOST))
        self.assertEqual(found, [[0, 2, 97, 98], [0, 1, 97], [-1], [-1], [-1]])

    def test_told_comes_before_a_fault_of_differences(self):
        found = ask(patch("a", [], 2), patch([55296], []), patch([55296], [0]), patch("a", [1, 1, 0, 0, 0], 2), patch("a", [5, 5], 2),
                    patch([55296], [1, 1, 0, 1, 1, 97, 98]), patch("a", []))
        self.assertEqual(found, [[-1]] * 6 + [[-5, 1, 0]])

    def test_told_comes_before_the_limit(self):
        found = ask(distance("a", "b", limit=0), distance("a", "b", limit=0, gap=0), distance("a", "b", limit=0, like=4),
                    distance("a", [55296], limit=0))
        self.assertEqual(found, [[-2], [-1], [-1], [-1]])


class NothingChangedTest(unittest.TestCase):
    BOOK = written({2: {0x301: 4}}, {0: {0xE9: (0x65, 0x301)}})
    PROOF = find([0xE9], [0x65, 0x301], like=1, kind=1)

    def test_a_refused_book_leaves_the_one_in_force(self):
        for refused, answer in (
                (([0] * 8193, [], [], []), [-6]), (([14, 65, 65, 1], [], [], []), [-5, 4, 0]),
                (([], [], [], [1]), [-5, 16, 0]), (written({0: {0x301: 230}}), [-5, 32, 0]),
                (written({}, {1: {0xE9: (65,), 0xEA: (65,)}, 6: {65: (66,), 66: (65,)}}), [-5, 25, 2])):
            self.assertEqual(ask_by(self.BOOK, self.PROOF, book(refused), self.PROOF), [[1, 0, 2], answer, [1, 0, 2]])

    def test_a_refused_first_book_leaves_the_one_without_records(self):
        self.assertEqual(ask(book(([14, 65, 65, 1], [], [], [])), self.PROOF), [[-5, 4, 0], [0]])

    def test_other_refused_calls(self):
        found = ask_by(self.BOOK, find("", ""), self.PROOF, every("", LONG), self.PROOF, distance("a", "b", limit=0), self.PROOF,
                       near("a", "b", start=2), self.PROOF)
        self.assertEqual(found, [[-1], [1, 0, 2], [-6], [1, 0, 2], [-2], [1, 0, 2], [-1], [1, 0, 2]])

    def test_refused_calls_between_texts(self):
        found = ask_by(self.BOOK, align("a", "b", gap=0), self.PROOF, common("a", LONG), self.PROOF, diff("a", "b", kind=4), self.PROOF,
                       patch("a", [0]), self.PROOF, patch("a", [1, 1], undo=2), self.PROOF, column(1, 1, 0, 0), self.PROOF)
        self.assertEqual(found, [each for answer in ([-1], [-6], [-1], [-5, 1, 0], [-1], [2]) for each in (answer, [1, 0, 2])])

    def test_each_call_between_texts_behind_a_refused_one_is_found(self):
        found = ask(align([55296], LONG, like=9), common("a", "a"), common(LONG, "", kind=9), diff("a", "a"), diff(LONG, LONG), align("a", "a"),
                    patch(LONG, [0] * 513), patch("", [0, 0]), patch("ab", [7, 7, 7, 7]), column(0, 0, 0, 1), column(9, 9, 9, 2), book(EMPTY))
        self.assertEqual(found, [[-6], [1], [-6], [0, 2, 1, 1], [-6], [0, 1, 0], [-6], [0, 0], [-5, 3, 0], [0, 0, 0, 1], [2], [0]])

    def test_each_call_behind_a_refused_one_is_found(self):
        found = ask(find("abc", LONG, like=7), every("a", "a"), book(([0] * 8193, [], [], [])), distance("a", "b"), near([55296], "a"),
                    book(EMPTY), every("b", "b"))
        self.assertEqual(found, [[-6], [0, 2, 0, 1], [-6], [1], [-1], [0], [0, 2, 0, 1]])

    def test_calls_go_by_the_book_that_was_taken(self):
        before, behind = ask(every([0xE9], [0x65, 0x301], 1)), ask_by(self.BOOK, every([0xE9], [0x65, 0x301], 1))
        self.assertEqual([pairs(before[0]), pairs(behind[0])], [[], [(0, 2)]])
        calls = (distance([0xE9], [0x65, 0x301], like=1, kind=1), near([0xE9], [0x61, 0x65, 0x301], like=1, kind=1))
        self.assertEqual(ask(*calls), [[2], [0]])
        self.assertEqual(ask_by(self.BOOK, *calls), [[0], [1, 1, 3, 0]])
        calls = (align([0xE9], [0x65, 0x301], like=1, kind=1), common([0xE9], [0x65, 0x301], like=1, kind=1), diff([0x65], [0x65, 0x301], 1))
        self.assertEqual(ask(*calls), [[0, 2, 1, 3], [0], [0, 6, 1, 2, 1, 0, 1, 0x301]])
        self.assertEqual(ask_by(self.BOOK, *calls), [[0, 1, 0], [1], [0, 8, 1, 2, 0, 1, 2, 0x65, 0x65, 0x301]])


if __name__ == "__main__":
    unittest.main()

"""Rules 4 to 17 of books: single records, their numbers, and which rule of a record comes first."""

import unittest

from tests.calls import flags, judged, names_row, row, written

MOST_VALUES = (254, 28, 13, 3, 18, 14, 47, 5, 22, 2, 255, 10, 8191, 1048575)
MOST_OF_ROWS = (2, 18, 3, 3, 3, 3, 1, 1, 1, 18, 32, 18, 1, 1, 1)
NO_SCALARS = (55296, 56000, 57343, 1114112, 4294967295)
NAMES = ["Zzzz", "Zyyy", "Zinh"]


def properties(*records):
    return judged(([number for record in records for number in record], [], [], []))


def maps(*records):
    return judged(([], [number for record in records for number in record], [], []))


def sequences(*records):
    return judged(([], [], [number for record in records for number in record], []))


def names(*each):
    return judged(([], [], [], names_row(each)))


def many_names(count):
    letters = "abcdefgh"
    return [a + b + c + d for a in "A" for b in letters for c in letters for d in letters][:count]


class PropertiesTest(unittest.TestCase):
    def test_rule_4(self):
        self.assertEqual(properties([14, 65, 65, 1]), [-5, 4, 0])
        self.assertEqual(properties([4294967295, 65, 65, 1]), [-5, 4, 0])
        self.assertEqual(properties([2, 65, 65, 1], [1, 65, 65, 1]), [-5, 4, 1])
        self.assertEqual(properties([1, 65, 65, 1], [2, 65, 65, 1], [2, 66, 66, 2]), [0])
        self.assertEqual(properties([13, 65, 65, 1 << 5]), [0])

    def test_rule_6(self):
        self.assertEqual(properties([1]), [-5, 6, 0])
        self.assertEqual(properties([1, 65, 65]), [-5, 6, 0])
        self.assertEqual(properties([1, 65, 65, 1], [1, 66]), [-5, 6, 1])

    def test_rule_6_before_all_else(self):
        self.assertEqual(properties([99, 55296, 3]), [-5, 6, 0])
        self.assertEqual(properties([2, 65, 65, 1], [1, 1, 1]), [-5, 6, 1])

    def test_rule_7(self):
        for number in NO_SCALARS:
            self.assertEqual(properties([1, number, 1114111, 1]), [-5, 7, 0])
            self.assertEqual(properties([1, 65, number, 1]), [-5, 7, 0])
        for number in (0, 55295, 57344, 1114111):
            self.assertEqual(properties([1, number, number, 1]), [0])
        self.assertEqual(properties([1, 66, 65, 1]), [-5, 7, 0])
        self.assertEqual(properties([1, 65, 70, 1], [1, 70, 80, 2]), [-5, 7, 1])
        self.assertEqual(properties([1, 65, 70, 1], [1, 60, 61, 2]), [-5, 7, 1])
        self.assertEqual(properties([1, 65, 70, 1], [1, 71, 80, 2]), [0])
        self.assertEqual(properties([1, 65, 70, 1], [4, 1, 80, 2]), [0])
        self.assertEqual(properties([1, 0, 1114111, 1]), [0])

    def test_rule_8(self):
        for number, most in enumerate(MOST_VALUES):
            self.assertEqual(properties([number, 65, 65, 0]), [-5, 8, 0])
            self.assertEqual(properties([number, 65, 65, most + 1]), [-5, 8, 0])
            self.assertNotEqual(properties([number, 65, 65, most])[1:2], [8])
            self.assertNotEqual(properties([number, 65, 65, 1])[1:2], [8])
        for number in (1, 2, 4, 5, 6, 7, 8, 12):
            self.assertEqual(properties([number, 65, 65, MOST_VALUES[number]]), [0])

    def test_rule_9(self):
        self.assertEqual(properties([1, 65, 70, 1], [1, 71, 80, 1]), [-5, 9, 1])
        self.assertEqual(properties([1, 65, 70, 1], [1, 72, 80, 1]), [0])
        self.assertEqual(properties([1, 65, 70, 1], [1, 71, 80, 2], [1, 81, 81, 1]), [0])
        self.assertEqual(properties([1, 65, 55295, 1], [1, 57344, 57345, 1]), [-5, 9, 1])
        self.assertEqual(properties([1, 65, 55295, 1], [1, 57344, 57345, 2]), [0])
        self.assertEqual(properties([1, 65, 55295, 1], [1, 57345, 57345, 1]), [0])
        self.assertEqual(properties([1, 65, 55294, 1], [1, 57344, 57345, 1]), [0])
        self.assertEqual(properties([4, 65, 70, 1], [5, 71, 80, 1]), [0])

    def test_order_of_a_record(self):
        self.assertEqual(properties([14, 55296, 65, 0]), [-5, 4, 0])
        self.assertEqual(properties([1, 55296, 65, 0]), [-5, 7, 0])
        self.assertEqual(properties([1, 65, 70, 30], [1, 71, 80, 30]), [-5, 8, 0])
        self.assertEqual(properties([1, 65, 70, 28], [1, 71, 80, 28]), [-5, 9, 1])


class MapsTest(unittest.TestCase):
    def test_rule_4(self):
        self.assertEqual(maps([15, 65, 1, 66]), [-5, 4, 0])
        self.assertEqual(maps([7, 65, 1, 66], [6, 65, 1, 66]), [-5, 4, 1])
        self.assertEqual(maps([6, 65, 1, 66], [14, 65, 1, 66]), [0])

    def test_rule_6(self):
        self.assertEqual(maps([6]), [-5, 6, 0])
        self.assertEqual(maps([6, 65]), [-5, 6, 0])
        self.assertEqual(maps([99, 55296]), [-5, 6, 0])
        self.assertEqual(maps([6, 65, 1]), [-5, 6, 0])
        self.assertEqual(maps([5, 65, 3, 66, 67]), [-5, 6, 0])
        self.assertEqual(maps([6, 65, 1, 66], [6, 66]), [-5, 6, 1])
        self.assertEqual(maps([6, 65, 1, 67], [6, 66, 1]), [-5, 6, 1])

    def test_rule_10(self):
        for number in NO_SCALARS:
            self.assertEqual(maps([6, number, 1, 66]), [-5, 10, 0])
        self.assertEqual(maps([6, 65, 1, 70], [6, 65, 1, 71]), [-5, 10, 1])
        self.assertEqual(maps([6, 65, 1, 70], [6, 64, 1, 71]), [-5, 10, 1])
        self.assertEqual(maps([6, 65, 1, 70], [6, 66, 1, 71]), [0])
        self.assertEqual(maps([6, 65, 1, 70], [12, 64, 1, 71]), [0])

    def test_rule_11(self):
        for number, most in enumerate(MOST_OF_ROWS):
            self.assertEqual(maps([number, 200] + row([])), [-5, 11, 0])
            self.assertEqual(maps([number, 200] + row(range(1, most + 2))), [-5, 11, 0])
            self.assertNotEqual(maps([number, 200] + row(range(1, most + 1)))[1:2], [11])
        self.assertEqual(maps([1, 200] + row([65] * 18)), [0])
        self.assertEqual(maps([10, 200] + row(range(3))), [0])
        self.assertEqual(maps([9, 200] + row([65] * 18)), [0])
        self.assertEqual(maps([6, 200, 4294967295, 1]), [-5, 11, 0])

    def test_rule_12(self):
        for number in (0, 1, 2, 3, 4, 5, 6, 7, 8, 9, 12, 13, 14):
            for wrong in NO_SCALARS:
                self.assertEqual(maps([number, 65, 1, wrong]), [-5, 12, 0])
        self.assertEqual(maps([5, 65, 3, 66, 67, 55296]), [-5, 12, 0])
        self.assertEqual(maps([10, 65, 1, 256]), [-5, 12, 0])
        self.assertEqual(maps([10, 65, 1, 255]), [-5, 29, 0])
        self.assertEqual(maps([10, 65, 2, 1, 1]), [-5, 12, 0])
        self.assertEqual(maps([10, 65, 2, 2, 1]), [-5, 12, 0])
        self.assertEqual(maps([10, 65, 2, 1, 2]), [0])
        self.assertEqual(maps([10, 65, 2, 1, 256]), [-5, 12, 0])
        self.assertEqual(maps([11, 65, 1, 4294967295]), [0])
        self.assertEqual(maps([11, 65, 1, 0]), [0])

    def test_rule_13(self):
        for number in (0, 1, 2, 3, 4, 5, 6, 7, 8, 9, 12, 13, 14):
            self.assertEqual(maps([number, 65, 1, 65]), [-5, 13, 0])
        self.assertEqual(maps([10, 2, 1, 2]), [0])
        self.assertEqual(maps([11, 1, 1, 1]), [0])
        self.assertNotEqual(maps([5, 65, 2, 65, 65])[1:2], [13])
        self.assertEqual(maps([4, 65, 1, 66], [6, 65, 1, 65]), [-5, 13, 1])

    def test_order_of_a_record(self):
        self.assertEqual(maps([15, 55296, 0]), [-5, 4, 0])
        self.assertEqual(maps([6, 55296, 0]), [-5, 10, 0])
        self.assertEqual(maps([6, 65, 2, 55296]), [-5, 11, 0])
        self.assertEqual(maps([5, 65, 2, 55296]), [-5, 6, 0])
        self.assertEqual(maps([5, 65, 1, 55296]), [-5, 12, 0])


class SequencesTest(unittest.TestCase):
    def test_rule_4(self):
        self.assertEqual(sequences([3, 2, 65, 66, 1, 1]), [-5, 4, 0])
        self.assertEqual(sequences([2, 2, 65, 66, 1, 1], [1, 2, 65, 66, 1, 1]), [-5, 4, 1])
        self.assertEqual(sequences([1, 2, 65, 66, 1, 1], [2, 2, 65, 66, 1, 1]), [0])

    def test_rule_6(self):
        self.assertEqual(sequences([1]), [-5, 6, 0])
        self.assertEqual(sequences([9]), [-5, 6, 0])
        self.assertEqual(sequences([1, 2]), [-5, 6, 0])
        self.assertEqual(sequences([1, 2, 65]), [-5, 6, 0])
        self.assertEqual(sequences([1, 2, 65, 66]), [-5, 6, 0])
        self.assertEqual(sequences([1, 2, 65, 66, 1]), [-5, 6, 0])
        self.assertEqual(sequences([0, 2, 65, 66, 3, 1, 1]), [-5, 6, 0])
        self.assertEqual(sequences([1, 2, 65, 66, 1, 1], [1]), [-5, 6, 1])
        self.assertEqual(sequences([1, 2, 65, 66, 1, 1], [1, 2, 67]), [-5, 6, 1])
        self.assertEqual(sequences([1, 2, 65, 66, 1, 1], [1, 2, 67, 68]), [-5, 6, 1])
        self.assertEqual(sequences([1, 2, 65, 66, 1, 1], [1, 2, 67, 68, 1]), [-5, 6, 1])

    def test_rule_14_lengths(self):
        for kind, least, most in ((0, 2, 18), (1, 1, 32), (2, 2, 32)):
            for size, wanted in ((0, [-5, 14, 0]), (least - 1, [-5, 14, 0]), (least, [0]), (most, [0]), (most + 1, [-5, 14, 0])):
                self.assertEqual(sequences([kind] + row(range(65, 65 + size)) + [1, 1]), wanted, (kind, size))

    def test_rule_14_keys(self):
        for number in NO_SCALARS:
            self.assertEqual(sequences([1, 2, 65, number, 1, 1]), [-5, 14, 0])
        first = [1, 2, 65, 66, 1, 1]
        for key, wanted in (
                ([65, 66], [-5, 14, 1]), ([65, 65], [-5, 14, 1]), ([65], [-5, 14, 1]), ([64, 99, 99], [-5, 14, 1]),
                ([65, 66, 1], [0]), ([65, 67], [0]), ([66], [0])):
            self.assertEqual(sequences(first, [1] + row(key) + [1, 1]), wanted, key)
        self.assertEqual(sequences(first, [2, 2, 65, 66, 1, 1]), [0])

    def test_rule_15(self):
        self.assertEqual(sequences([0, 2, 65, 66, 0]), [-5, 15, 0])
        self.assertEqual(sequences([0, 2, 65, 66] + row([1] * 18)), [0])
        self.assertEqual(sequences([0, 2, 65, 66] + row([1] * 19)), [-5, 15, 0])
        for kind in (1, 2):
            self.assertEqual(sequences([kind, 2, 65, 66, 0]), [-5, 15, 0])
            self.assertEqual(sequences([kind, 2, 65, 66, 2, 1, 1]), [-5, 15, 0])
            self.assertEqual(sequences([kind, 2, 65, 66, 1, 65535]), [0])
            self.assertEqual(sequences([kind, 2, 65, 66, 1, 65536]), [-5, 15, 0])
            self.assertEqual(sequences([kind, 2, 65, 66, 1, 0]), [0])
        self.assertEqual(sequences([0, 2, 65, 66, 1, 4294967295]), [0])
        self.assertEqual(sequences([1, 1, 65, 1, 1], [1, 1, 66, 1, 65536]), [-5, 15, 1])

    def test_order_of_a_record(self):
        self.assertEqual(sequences([3, 0]), [-5, 4, 0])
        self.assertEqual(sequences([1, 33, 55296]), [-5, 14, 0])
        self.assertEqual(sequences([1, 2, 55296]), [-5, 6, 0])
        self.assertEqual(sequences([1, 2, 55296, 65, 2]), [-5, 14, 0])
        self.assertEqual(sequences([1, 2, 65, 66, 2]), [-5, 15, 0])
        self.assertEqual(sequences([1, 2, 65, 66, 1]), [-5, 6, 0])


class NamesTest(unittest.TestCase):
    def test_none_or_three_at_least(self):
        self.assertEqual(names(), [0])
        self.assertEqual(names(*NAMES[:1]), [-5, 16, 1])
        self.assertEqual(names(*NAMES[:2]), [-5, 16, 2])
        self.assertEqual(names(*NAMES), [0])
        self.assertEqual(names(*NAMES, "Latn"), [0])

    def test_first_three(self):
        self.assertEqual(names("Latn", "Zyyy", "Zinh"), [-5, 16, 0])
        self.assertEqual(names("Zzzz", "Zinh", "Zyyy"), [-5, 16, 1])
        self.assertEqual(names("Zzzz", "Zyyy", "Latn"), [-5, 16, 2])

    def test_letters(self):
        for wrong in ("latn", "LAtn", "LatN", "La1n", "L@tn", "[atn", "La{n", "La`n"):
            self.assertEqual(names(*NAMES, wrong), [-5, 16, 3], wrong)
        for right in ("Aaaa", "Zzaz", "Azzz"):
            self.assertEqual(names(*NAMES, right), [0])

    def test_new(self):
        self.assertEqual(names(*NAMES, "Latn", "Latn"), [-5, 16, 4])
        self.assertEqual(names(*NAMES, "Zinh"), [-5, 16, 3])

    def test_four_numbers_each(self):
        whole = names_row(NAMES)
        for size in (1, 2, 3):
            self.assertEqual(judged(([], [], [], whole + names_row(["Latn"])[:size])), [-5, 16, 3])
            self.assertEqual(judged(([], [], [], whole[:4 + size])), [-5, 16, 1])

    def test_64_at_the_latest(self):
        self.assertEqual(names(*NAMES, *many_names(61)), [0])
        self.assertEqual(names(*NAMES, *many_names(62)), [-5, 16, 64])


class WalkedTest(unittest.TestCase):
    def test_rule_17_marks(self):
        for count, wanted in ((4096, [0]), (4097, [-5, 17, 0])):
            span = (0x20000, 0x20000 + count - 1)
            self.assertEqual(judged(written({0: {span: 1}, 2: {span: 4}})), wanted)

    def test_rule_17_conjuncts_and_pictures(self):
        for count, wanted in ((4096, [0]), (4097, [-5, 17, 0])):
            span = (0x20000, 0x20000 + count - 1)
            self.assertEqual(judged(written({3: {span: 2}})), wanted)
            self.assertEqual(judged(written({13: {span: flags(12)}})), wanted)
            self.assertEqual(judged(written({13: {span: flags(5)}})), [0])

    def test_rule_17_brackets(self):
        span = (0x20000, 0x20000 + 4096)
        self.assertEqual(judged(written({9: {span: 1}})), [-5, 17, 0])
        self.assertEqual(judged(written({9: {(0x20000, 0x20000 + 4095): 1}})), [-5, 27, 0])

    def test_rule_17_together(self):
        for more, wanted in ((0, [0]), (1, [-5, 17, 0])):
            rows = written({
                0: {(0x20000, 0x203FF): 1}, 2: {(0x20000, 0x203FF): 4}, 3: {(0x20000, 0x203FF): 3, (0x21000, 0x213FF): 2},
                13: {(0x22000, 0x22000 + 1023 + more): flags(12), (0x30000, 0x3FFFF): flags(5)}})
            self.assertEqual(judged(rows), wanted)

    def test_rule_17_counts_what_lies_between(self):
        self.assertEqual(judged(([13, 0xD7B0, 0xE7AF, flags(12)], [], [], [])), [0])
        self.assertEqual(judged(([13, 0xD7B0, 0xE7B0, flags(12)], [], [], [])), [-5, 17, 0])

    def test_other_properties_may_go_far(self):
        for number in (1, 2, 4, 5, 6, 7, 8, 12):
            self.assertEqual(properties([number, 0, 1114111, 1]), [0])
        self.assertEqual(properties([12, 0, 1114111, 1 << 12]), [0])

    def test_rule_17_stands_behind_the_rows(self):
        wide = [0, 0x20000, 0x22000, 1]
        self.assertEqual(judged((wide, [6, 65, 1, 65], [], [])), [-5, 13, 0])
        self.assertEqual(judged((wide, [], [1, 0, 0], [])), [-5, 14, 0])
        self.assertEqual(judged((wide, [], [], [1])), [-5, 16, 0])
        self.assertEqual(judged((wide, [0, 65, 1, 66, 0, 66, 1, 65], [], [])), [-5, 17, 0])


class RowsInOrderTest(unittest.TestCase):
    def test_first_row_first(self):
        wrong = ([14, 65, 65, 1], [15, 65, 1, 66], [3, 2, 65, 66, 1, 1], [1])
        told = [[-5, 4, 0], [-5, 4, 0], [-5, 4, 0], [-5, 16, 0]]
        for k in range(4):
            self.assertEqual(judged(tuple([] if j < k else wrong[j] for j in range(4))), told[k])

    def test_first_record_first(self):
        self.assertEqual(properties([1, 65, 65, 30], [14, 1, 1, 1]), [-5, 8, 0])
        self.assertEqual(maps([6, 65, 1, 65], [15, 1, 1, 1]), [-5, 13, 0])
        self.assertEqual(sequences([1, 1, 65, 1, 65536], [3, 2, 1, 1, 1, 1]), [-5, 15, 0])
        self.assertEqual(judged(([1, 65, 65, 1, 1, 66], [15], [], [])), [-5, 6, 1])

    def test_records_are_counted_in_each_row_by_itself(self):
        right = [1, 65, 65, 1, 1, 67, 67, 1]
        self.assertEqual(judged((right, [6, 65, 1, 65], [], [])), [-5, 13, 0])
        self.assertEqual(judged((right, [6, 65, 1, 66], [1, 1, 65, 1, 1, 1, 0], [])), [-5, 14, 1])


if __name__ == "__main__":
    unittest.main()

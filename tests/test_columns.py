"""K9: columns held against tables of distances with all costs 1."""

import random
import unittest

from tests import models
from tests.calls import ask, column, distance

ROWS = 64
FULL = 2 ** ROWS - 1
LAST = 1 << 63


def bits(flags_by_row):
    return sum(1 << row for row, flag in enumerate(flags_by_row) if flag)


def down(values):
    """A column's plus and minus."""
    pairs = list(zip(values, values[1:]))
    return bits([b == a + 1 for a, b in pairs]), bits([b == a - 1 for a, b in pairs])


def wanted(old, alike, above):
    """The new column, and what is to be answered."""
    new = models.column_behind(old, alike, above)
    return new, [0, *down(new), new[-1] - old[-1]]


def asked(old, alike, above):
    return column(*down(old), bits(alike), above)


class ColumnTest(unittest.TestCase):
    def test_one_after_another(self):
        # Each column goes by what the program answered of the one before, so a fault would be carried on.
        chance = random.Random(41)
        for letters, above in (("ab", 1), ("abcd", 1), ("ab", 0), ("a", 1), ("abc", -1)):
            rows = [chance.choice(letters) for row in range(ROWS)]
            plus, minus, values = FULL, 0, list(range(ROWS + 1))
            for turn in range(100):
                letter = chance.choice(letters)
                alike = [letter == row for row in rows]
                values, answer = wanted(values, alike, above)
                self.assertEqual(ask(column(plus, minus, bits(alike), above)), [answer])
                zero, plus, minus, last = answer

    def test_the_last_row_is_the_distance(self):
        chance = random.Random(42)
        s = [chance.choice((7, 8, 9)) for row in range(ROWS)]
        t = [chance.choice((7, 8, 9)) for turn in range(48)]
        plus, minus = FULL, 0
        for turn in range(48):
            answer, = ask(column(plus, minus, bits([unit == t[turn] for unit in s]), 1))
            zero, plus, minus, last = answer
            # The value in row 48 is the rows' differences added up, as far as a text of 48 may be asked for.
            value = turn + 1 + bin(plus & (1 << 48) - 1).count("1") - bin(minus & (1 << 48) - 1).count("1")
            self.assertEqual(ask(distance(s[:48], t[:turn + 1])), [[value]])

    def test_one_block_of_rows_hands_on_to_the_next(self):
        chance = random.Random(43)
        s = [chance.choice("abc") for row in range(2 * ROWS)]
        values = list(range(2 * ROWS + 1))
        blocks = [(FULL, 0), (FULL, 0)]
        for turn in range(60):
            letter = chance.choice("abc")
            alike = [letter == unit for unit in s]
            values = models.column_behind(values, alike, 1)
            across = 1
            for k in range(2):
                answer, = ask(column(*blocks[k], bits(alike[ROWS * k:ROWS * (k + 1)]), across))
                blocks[k] = tuple(answer[1:3])
                across = answer[3]
                self.assertEqual(blocks[k], down(values[ROWS * k:ROWS * (k + 1) + 1]))

    def test_any_columns(self):
        chance = random.Random(44)
        for turn in range(400):
            old = [0]
            weights = chance.choice(((1, 1, 1), (8, 1, 1), (1, 1, 8), (1, 8, 1)))
            for row in range(ROWS):
                old.append(old[-1] + chance.choices((-1, 0, 1), weights)[0])
            often = chance.choice((0, 1, 5, 9, 10))
            alike = [chance.randrange(10) < often for row in range(ROWS)]
            for above in (-1, 0, 1):
                self.assertEqual(ask(asked(old, alike, above)), [wanted(old, alike, above)[1]])

    def test_all_bits_and_the_last_alone(self):
        for plus, minus in ((FULL, 0), (0, FULL), (0, 0), (LAST, 0), (0, LAST), (LAST, FULL - LAST), (FULL - LAST, LAST), (1, FULL - 1)):
            old = [0]
            for row in range(ROWS):
                old.append(old[-1] + (plus >> row & 1) - (minus >> row & 1))
            for alike in (0, FULL, LAST, FULL - LAST, 1):
                same = [alike >> row & 1 == 1 for row in range(ROWS)]
                for above in (-1, 0, 1):
                    self.assertEqual(ask(column(plus, minus, alike, above)), [wanted(old, same, above)[1]])

    def test_some(self):
        found = ask(column(FULL, 0, 0, 1), column(FULL, 0, FULL, 1), column(FULL, 0, LAST, 1), column(0, 0, 0, 0), column(0, 0, 0, 1),
                    column(0, 0, FULL, -1), column(0, FULL, 0, -1))
        self.assertEqual(found, [[0, FULL - 1, 0, 0], [0, FULL - 1, 1, -1], [0, FULL - LAST - 1, 0, -1], [0, 1, 0, 1], [0, 0, 0, 1],
                                 [0, 1, 0, 0], [0, 1, FULL - 1, 1]])


class NoColumnTest(unittest.TestCase):
    def test_in(self):
        for plus, minus, alike in ((0, 0, 0), (FULL, 0, FULL), (0, FULL, 0), (1, 2, 4)):
            found = ask(*[column(plus, minus, alike, above) for above in (-2, -1, 0, 1, 2)])
            self.assertEqual([answer[0] for answer in found], [2, 0, 0, 0, 2])
            self.assertEqual([len(answer) for answer in found], [1, 4, 4, 4, 1])

    def test_a_bit_in_common(self):
        for plus, minus in ((1, 1), (LAST, LAST), (FULL, 1), (FULL, LAST), (LAST, FULL), (FULL, FULL), (6, 12)):
            for above in (-2, -1, 0, 1, 2):
                self.assertEqual(ask(column(plus, minus, 0, above)), [[2]])

    def test_alike_may_have_any_bits(self):
        for alike in (0, 1, LAST, FULL):
            self.assertEqual([answer[0] for answer in ask(column(3, 12, alike, 0))], [0])


if __name__ == "__main__":
    unittest.main()

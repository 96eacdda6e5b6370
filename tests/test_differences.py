"""K7: differences done give t, undone s; none have fewer units put in and taken out."""

import itertools
import random
import unittest

from tests import models
from tests.calls import ask, ask_by, borders, counted, diff, patch, scalars
from tests.sample import ACUTE, BOOK, E, E_ACUTE, units

LETTERS = scalars("aAbc  \r\n\n") + [E, E_ACUTE, ACUTE, 115, 0xDF]


def changes_of(row):
    """A row of differences read: each change's place, what is taken out, what is put in."""
    found = []
    at = 2
    while at < len(row):
        place, out, into = row[at:at + 3]
        found.append((place, row[at + 3:at + 3 + out], row[at + 3 + out:at + 3 + out + into]))
        at += 3 + out + into
    assert at == len(row), "a change is cut off"
    return found


def wanted_row(s, t, kind):
    """The differences by the first of all alignments."""
    fronts = units(0, kind, s), units(0, kind, t)
    row = [len(s), len(t)]
    place = 0
    for kept, run in itertools.groupby(models.aligned(*fronts, 1, 3), key=lambda step: step == 0):
        steps = list(run)
        out = [scalar for step in steps if step != 3 for scalar in fronts[0].pop(0)]
        into = [scalar for step in steps if step != 2 for scalar in fronts[1].pop(0)]
        if not kept:
            row += [place, len(out), len(into)] + out + into
        place += len(out)
    return row


def units_moved(row, s, t, kind):
    """How many units the changes take out and put in, by the borders of both texts."""
    s_cuts, t_cuts = borders(BOOK, kind, s), borders(BOOK, kind, t)
    moved = more = 0
    for place, out, into in changes_of(row):
        moved += len([cut for cut in s_cuts if place < cut <= place + len(out)])
        moved += len([cut for cut in t_cuts if place + more < cut <= place + more + len(into)])
        more += len(into) - len(out)
    return moved


class DiffTest(unittest.TestCase):
    def test_some(self):
        found = ask(diff("abcd", "abxd"), diff("abc", "ac"), diff("ac", "abc"), diff("abc", "xbcy"), diff("ab", "ba"))
        self.assertEqual([counted(answer) for answer in found], [
            [4, 4, 2, 1, 1, 99, 120], [3, 2, 1, 1, 0, 98], [2, 3, 1, 0, 1, 98], [3, 4, 0, 1, 1, 97, 120, 3, 0, 1, 121],
            [2, 2, 0, 1, 0, 97, 2, 0, 1, 97]])

    def test_answer_tells_how_many_numbers(self):
        self.assertEqual(ask(diff("ab", "a"), diff("a", "a")), [[0, 6, 2, 1, 1, 1, 0, 98], [0, 2, 1, 1]])

    def test_the_same_text_has_no_change(self):
        for kind in range(4):
            for text in ("", "a", "ab cd\nef", "a" * 48):
                self.assertEqual([counted(answer) for answer in ask_by(BOOK, diff(text, text, kind))], [[len(text), len(text)]])

    def test_empty_on_either_side(self):
        for kind in range(4):
            found = ask_by(BOOK, diff("", "ab\nc", kind), diff("ab\nc", "", kind), diff("", "", kind))
            self.assertEqual([counted(answer) for answer in found], [
                [0, 4, 0, 0, 4, 97, 98, 10, 99], [4, 0, 0, 4, 0, 97, 98, 10, 99], [0, 0]])

    def test_taken_out_and_put_in_at_once_is_one_change(self):
        found = ask(diff("abcd", "axyd"), diff("abcd", "xyz"), diff("aab", "aacc"))
        self.assertEqual([counted(answer) for answer in found], [
            [4, 4, 1, 2, 2, 98, 99, 120, 121], [4, 3, 0, 4, 3, 97, 98, 99, 100, 120, 121, 122], [3, 4, 2, 1, 2, 98, 99, 99]])

    def test_units_of_each_kind(self):
        s, t = [97, 98, 32, E, ACUTE, 10, 99], [97, 98, 32, E, 10, 99, 99]
        found = ask_by(BOOK, *[diff(s, t, kind) for kind in range(4)])
        self.assertEqual([counted(answer) for answer in found], [
            [7, 7, 4, 1, 0, ACUTE, 7, 0, 1, 99], [7, 7, 3, 2, 1, E, ACUTE, E, 7, 0, 1, 99], [7, 7, 3, 2, 1, E, ACUTE, E, 6, 1, 2, 99, 99, 99],
            [7, 7, 0, 7, 7] + s + t])

    def test_just_the_same_scalars_are_kept(self):
        found = ask_by(BOOK, *[diff([E_ACUTE], [E, ACUTE], kind) for kind in range(4)], *[diff([0x41], [0x61], kind) for kind in range(4)])
        self.assertEqual([counted(answer) for answer in found], [[1, 2, 0, 1, 2, E_ACUTE, E, ACUTE]] * 4 + [[1, 1, 0, 1, 1, 0x41, 0x61]] * 4)

    def test_done_and_undone(self):
        chance = random.Random(31)
        for kind in range(4):
            for turn in range(60):
                some = chance.sample(LETTERS, 5)
                s, t = [[chance.choice(some) for k in range(chance.randrange(14))] for text in range(2)]
                row = counted(ask_by(BOOK, diff(s, t, kind))[0])
                done, undone = ask(patch(s, row), patch(t, row, undo=1))
                self.assertEqual([counted(done), counted(undone)], [t, s], (kind, row))

    def test_row_by_row_against_all_alignments(self):
        chance = random.Random(32)
        for kind in range(4):
            for turn in range(25):
                some = chance.sample(LETTERS, 4)
                s, t = [[chance.choice(some) for k in range(chance.randrange(6))] for text in range(2)]
                self.assertEqual(counted(ask_by(BOOK, diff(s, t, kind))[0]), wanted_row(s, t, kind), (s, t, kind))

    def test_none_has_fewer_units(self):
        chance = random.Random(33)
        for kind in range(4):
            for turn in range(12):
                some = chance.sample(LETTERS, 3)
                s, t = [[chance.choice(some) for k in range(chance.randrange(5))] for text in range(2)]
                rows = units(0, kind, s), units(0, kind, t)
                # Putting one unit in another's place is as dear as it can be, so the search only puts in and takes out.
                known = models.cheapest(rows[0], sorted(set(rows[0] + rows[1])), 1, 1000, 0, longest=max(len(rows[0]), len(rows[1])) + 1)
                row = counted(ask_by(BOOK, diff(s, t, kind))[0])
                self.assertEqual(units_moved(row, s, t, kind), known[tuple(rows[1])], (s, t, kind))

    def test_between_two_changes_something_is_kept(self):
        chance = random.Random(34)
        for turn in range(60):
            s, t = [[chance.choice((7, 8, 9)) for k in range(chance.randrange(20))] for text in range(2)]
            found = changes_of(counted(ask(diff(s, t))[0]))
            for before, behind in zip(found, found[1:]):
                self.assertGreater(behind[0], before[0] + len(before[1]))
            for place, out, into in found:
                self.assertEqual(s[place:place + len(out)], out)
                self.assertTrue(out or into)

    def test_longest_texts(self):
        pairs_of_texts = (("a" * 48, "b" * 48), ("ab" * 24, "cb" * 24), ("ab" * 24, "b" * 24), ("a" * 48, ""), ("", "a" * 48))
        for s, t in pairs_of_texts:
            row = counted(ask(diff(s, t))[0])
            self.assertLessEqual(len(row), 512)
            done, undone = ask(patch(s, row), patch(t, row, undo=1))
            self.assertEqual([counted(done), counted(undone)], [scalars(t), scalars(s)])


if __name__ == "__main__":
    unittest.main()

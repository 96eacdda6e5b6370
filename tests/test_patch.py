"""Patch: texts made and made again from rows of differences; each fault at its edge, and the first of several."""

import unittest

from tests.calls import ask, counted, patch, scalars

MOST = 4294967295
NO_SCALARS = (55296, 57343, 1114112, MOST)
A, B, C, D, X, Y = scalars("abcdxy")


def told(*pairs_of_rows, undo=0):
    return ask(*[patch(text, row, undo) for text, row in pairs_of_rows])


class MadeTest(unittest.TestCase):
    def test_done_and_undone(self):
        row = [4, 5, 0, 1, 0, A, 2, 1, 3, C, X, Y, X]
        self.assertEqual(ask(patch("abcd", row), patch("bxyxd", row, 1)), [[0, 5, B, X, Y, X, D], [0, 4, A, B, C, D]])
        row = [4, 4, 0, 0, 2, X, Y, 2, 2, 0, C, D]
        self.assertEqual(ask(patch("abcd", row), patch("xyab", row, 1)), [[0, 4, X, Y, A, B], [0, 4, A, B, C, D]])

    def test_no_change(self):
        self.assertEqual(ask(patch("ab", [2, 2]), patch("ab", [2, 2], 1), patch("", [0, 0]), patch("", [0, 0], 1)),
                         [[0, 2, A, B], [0, 2, A, B], [0, 0], [0, 0]])

    def test_all_taken_out_and_all_put_in(self):
        self.assertEqual(ask(patch("ab", [2, 0, 0, 2, 0, A, B]), patch("", [2, 0, 0, 2, 0, A, B], 1), patch("", [0, 2, 0, 0, 2, A, B]),
                             patch("ab", [0, 2, 0, 0, 2, A, B], 1)), [[0, 0], [0, 2, A, B], [0, 2, A, B], [0, 0]])

    def test_what_is_taken_out_may_be_what_is_put_in(self):
        row = [2, 2, 0, 1, 1, A, A]
        self.assertEqual(ask(patch("ab", row), patch("ab", row, 1)), [[0, 2, A, B], [0, 2, A, B]])

    def test_each_edge_of_scalars(self):
        for scalar in (0, 55295, 57344, 1114111):
            row = [1, 1, 0, 1, 1, scalar, A]
            self.assertEqual(ask(patch([scalar], row), patch("a", row, 1)), [[0, 1, A], [0, 1, scalar]])

    def test_a_text_longer_than_those_that_are_handed_in_is_made(self):
        row = [48, 555, 48, 0, 507] + [A] * 507
        self.assertEqual(len(row), 512)
        self.assertEqual(counted(ask(patch("b" * 48, row))[0]), [B] * 48 + [A] * 507)

    def test_it_goes_by_no_book(self):
        self.assertEqual(ask(patch([0xE9], [1, 1, 0, 1, 1, 0x65, A])), [[-5, 9, 0]])


class FaultTest(unittest.TestCase):
    def held_both_ways(self, row, *fault):
        """That the row has this fault by itself, whatever text it is for and done or undone."""
        for text in ("", "a", "ab", "abcd"):
            for undo in (0, 1):
                self.assertEqual(ask(patch(text, row, undo)), [[-5, *fault]], row)

    def test_1_fewer_than_two_numbers(self):
        self.held_both_ways([], 1, 0)
        self.held_both_ways([0], 1, 0)
        self.held_both_ways([MOST], 1, 0)
        self.assertEqual(ask(patch("", [0, 0])), [[0, 0]])

    def test_3_cut_off(self):
        self.held_both_ways([2, 2, 0], 3, 0)
        self.held_both_ways([2, 2, 0, 1], 3, 0)
        self.held_both_ways([2, 2, 0, 1, 1], 3, 0)
        self.held_both_ways([2, 2, 0, 1, 1, A], 3, 0)
        self.held_both_ways([2, 2, 0, 2, 0, A], 3, 0)
        self.held_both_ways([2, 2, 0, 0, 2, A], 3, 0)
        self.held_both_ways([2, 2, 0, MOST, MOST, A, A], 3, 0)
        self.assertEqual(ask(patch("ab", [2, 2, 0, 1, 1, A, X])), [[0, 2, X, B]])

    def test_3_of_a_later_change(self):
        first = [4, 4, 0, 1, 1, A, X]
        for rest in ([2], [2, 1], [2, 1, 1], [2, 1, 1, C], [2, 0, 2, C]):
            self.held_both_ways(first + rest, 3, 1)
        second = first + [2, 0, 1, Y]
        for rest in ([4], [4, 1], [4, 1, 0]):
            self.held_both_ways(second + rest, 3, 2)

    def test_4_nothing_taken_out_and_nothing_put_in(self):
        self.held_both_ways([2, 2, 0, 0, 0], 4, 0)
        self.held_both_ways([2, 2, 2, 0, 0], 4, 0)
        self.held_both_ways([2, 2, 0, 1, 1, A, X, 2, 0, 0], 4, 1)
        self.assertEqual(ask(patch("ab", [2, 3, 0, 0, 1, X]), patch("ab", [2, 1, 0, 1, 0, A])), [[0, 3, X, A, B], [0, 1, B]])

    def test_5_behind_the_last_ones_end(self):
        # The first takes out 0 and 1: the next may begin at 3, where 2 is kept between them.
        for place, answer in ((0, [-5, 5, 1]), (1, [-5, 5, 1]), (2, [-5, 5, 1]), (3, [0, 2, C, X]), (4, [0, 3, C, D, X])):
            row = [4, 2, 0, 2, 0, A, B, place, 1, 1, D, X] if place < 4 else [4, 3, 0, 2, 0, A, B, place, 0, 1, X]
            self.assertEqual(ask(patch("abcd", row)), [answer], place)
            if answer[0] == -5:
                self.held_both_ways(row, 5, 1)

    def test_5_behind_what_only_puts_in(self):
        for place, answer in ((0, [-5, 5, 1]), (1, [-5, 5, 1]), (2, [0, 4, A, X, B, Y])):
            self.assertEqual(ask(patch("ab", [2, 4, 1, 0, 1, X, place, 0, 1, Y])), [answer], place)

    def test_5_third_change(self):
        for place, answer in ((1, [-5, 5, 2]), (2, [-5, 5, 2]), (3, [-5, 5, 2]), (4, [0, 3, B, D, D])):
            row = [6, 3, 0, 1, 0, A, 2, 1, 0, C, place, 1, 0, C]
            self.assertEqual(ask(patch("abcdcd", row)), [answer], place)

    def test_5_ends_at_and_behind_the_texts_end(self):
        self.assertEqual(ask(patch("ab", [2, 1, 1, 1, 0, B]), patch("ab", [2, 3, 2, 0, 1, X])), [[0, 1, A], [0, 3, A, B, X]])
        self.held_both_ways([2, 0, 1, 2, 0, B, C], 5, 0)
        self.held_both_ways([2, 1, 2, 1, 0, C], 5, 0)
        self.held_both_ways([2, 3, 3, 0, 1, X], 5, 0)
        self.held_both_ways([2, 3, MOST, 0, 1, X], 5, 0)
        self.held_both_ways([0, 1, 1, 0, 1, X], 5, 0)
        self.held_both_ways([4, 3, 0, 1, 0, A, 3, 2, 2, D, D, X, X], 5, 1)

    def test_5_goes_by_the_number_that_is_told(self):
        # By its own numbers this row is whole; that the text is shorter is told later.
        self.assertEqual(told(("ab", [3, 4, 3, 0, 1, X])), [[-5, 8, 0]])
        self.held_both_ways([2, 3, 3, 0, 1, X], 5, 0)

    def test_6_no_scalar(self):
        for number in NO_SCALARS:
            self.held_both_ways([2, 2, 0, 1, 1, number, X], 6, 0)
            self.held_both_ways([2, 2, 0, 1, 1, A, number], 6, 0)
            self.held_both_ways([2, 1, 0, 2, 1, A, number, X], 6, 0)
            self.held_both_ways([2, 3, 0, 1, 2, A, X, number], 6, 0)
            self.held_both_ways([4, 4, 0, 1, 1, A, X, 2, 1, 1, C, number], 6, 1)

    def test_7_number_of_the_other_text(self):
        for size in (0, 1, 3, 4, MOST):
            self.held_both_ways([2, size, 0, 1, 1, A, X], 7, 0)
        self.held_both_ways([2, 3], 7, 0)
        self.held_both_ways([0, MOST], 7, 0)
        self.held_both_ways([MOST, 0], 7, 0)
        self.held_both_ways([4, 4, 0, 1, 0, A, 2, 1, 0, C], 7, 0)
        self.held_both_ways([4, 5, 0, 1, 1, A, X, 2, 1, 3, C, X, X, X], 7, 0)
        self.assertEqual(ask(patch("abcd", [4, 6, 0, 1, 1, A, X, 2, 1, 3, C, X, X, X])), [[0, 6, X, B, X, X, X, D]])

    def test_8_number_of_the_text(self):
        row = [2, 3, 1, 1, 2, B, X, Y]
        found = told(("a", row), ("ab", row), ("axy", row), ("abb", row), ("", row))
        self.assertEqual(found, [[-5, 8, 0], [0, 3, A, X, Y], [-5, 8, 0], [-5, 8, 0], [-5, 8, 0]])
        found = told(("ab", row), ("ax", row), ("axy", row), ("axyx", row), ("", row), undo=1)
        self.assertEqual(found, [[-5, 8, 0], [-5, 8, 0], [0, 2, A, B], [-5, 8, 0], [-5, 8, 0]])
        self.assertEqual(told(("", [MOST, MOST]), ("a", [0, 0])), [[-5, 8, 0]] * 2)

    def test_9_not_what_stands_there(self):
        row = [5, 4, 0, 1, 1, A, X, 2, 2, 1, C, D, Y]
        found = told(("abcda", row), ("bbcda", row), ("abbda", row), ("abcca", row), ("bbbba", row), ("adcdb", row))
        self.assertEqual(found, [[0, 4, X, B, Y, A], [-5, 9, 0], [-5, 9, 1], [-5, 9, 1], [-5, 9, 0], [0, 4, X, D, Y, B]])
        found = told(("xbya", row), ("abya", row), ("xbca", row), ("aaaa", row), ("xdyd", row), undo=1)
        self.assertEqual(found, [[0, 5, A, B, C, D, A], [-5, 9, 0], [-5, 9, 1], [-5, 9, 0], [0, 5, A, D, C, D, D]])

    def test_9_places_in_the_other_text(self):
        # In t the second change stands where it does in s, less the two taken out, more the three put in.
        row = [6, 6, 1, 2, 3, B, C, X, X, Y, 4, 2, 1, B, A, Y]
        self.assertEqual(ask(patch("abcdba", row), patch("axxydy", row, 1), patch("axxyyd", row, 1)),
                         [[0, 6, A, X, X, Y, D, Y], [0, 6, A, B, C, D, B, A], [-5, 9, 1]])


class FirstFaultTest(unittest.TestCase):
    def test_of_one_change(self):
        # cut off, nothing in it, out of place, no scalar: told in this order
        rows = (([2, 9, 9, 9, 9], 3), ([2, 9, 9, 0, 0], 4), ([2, 9, 9, 1, 0, 55296], 5), ([2, 9, 1, 1, 0, 55296], 6), ([2, 9, 1, 1, 0, A], 7),
                ([2, 1, 1, 1, 0, A], 8))
        for row, rule in rows:
            for undo in (0, 1):
                self.assertEqual(told(("abc", row), undo=undo), [[-5, rule, 0]])
        self.assertEqual(told(("ab", [2, 1, 1, 1, 0, A])), [[-5, 9, 0]])
        self.assertEqual(told(("ab", [1, 2, 1, 0, 1, A]), undo=1), [[-5, 9, 0]])

    def test_of_several_changes_the_first_ones(self):
        early = [0, 1, 0, 55296]
        for late in ([1], [1, 0, 0], [0, 1, 0, A], [2, 1, 0, 55296]):
            self.assertEqual(told(("abcd", [4, 9] + early + late)), [[-5, 6, 0]])
        for early, rule in (([0, 0, 0], 4), ([4, 1, 0, A], 5)):
            self.assertEqual(told(("abcd", [4, 9] + early + [2])), [[-5, rule, 0]])
        self.assertEqual(told(("xxxx", [4, 3, 0, 1, 0, A, 2, 1, 1, C])), [[-5, 3, 1]])

    def test_the_row_before_the_text(self):
        self.assertEqual(told(("x", [4, 4, 0, 1, 0, A])), [[-5, 7, 0]])
        self.assertEqual(told(("x", [4, 3, 0, 1, 0, A])), [[-5, 8, 0]])
        self.assertEqual(told(("xxxx", [4, 3, 0, 1, 0, A])), [[-5, 9, 0]])


if __name__ == "__main__":
    unittest.main()

"""The interface: what is handed in stays as it is, nothing is kept, and answers have the form that is told."""

import unittest

import seekmarks.finding
from tests.calls import ask, book, distance, every, find, near, written

BOOK = written({0: {0x301: 230}, 2: {0x301: 4}}, {0: {0xE9: (0x65, 0x301)}, 5: {0xC9: (0xE9,)}})
CALLS = (
    find("a", "aba"), book(BOOK), find([0xE9], [0x65, 0x301], like=1), every("a", "aba"), every("b", "a"), distance("abc", "acb", swap=1),
    distance("abc", "x", limit=1), near("ab", "xaby"), near("ab", "x"), find("", "x"), book(([14, 1, 1, 1], [], [], [])), find("x", "a" * 49))
ANSWERED = [
    3, 1, 0, 1, 1, 0, 3, 1, 0, 2, 6, 0, 4, 0, 1, 2, 3, 2, 0, 0, 1, 1, 1, -2, 4, 1, 1, 3, 0, 1, 0, 1, -1, 3, -5, 4, 0, 1, -6]


class Watched(list):
    """A list that tells when it is changed, for a while too."""

    def refuse(self, *given, **named):
        raise AssertionError("what is handed in was changed")

    append = extend = insert = pop = remove = clear = sort = reverse = refuse
    __setitem__ = __delitem__ = __iadd__ = __imul__ = refuse


def numbers():
    return [number for call in CALLS for number in call]


class InterfaceTest(unittest.TestCase):
    def test_form(self):
        self.assertEqual(seekmarks.finding.answers(numbers()), ANSWERED)

    def test_called_by_the_name_that_is_told(self):
        self.assertEqual(seekmarks.finding.answers(calls=[1, 0, 0, 0, 0]), [1, 0])

    def test_what_is_handed_in_stays(self):
        handed = numbers()
        seekmarks.finding.answers(handed)
        self.assertEqual(handed, numbers())
        self.assertEqual(seekmarks.finding.answers(Watched(numbers())), ANSWERED)

    def test_the_same_list_twice(self):
        handed = numbers()
        first = seekmarks.finding.answers(handed)
        self.assertEqual(first, ANSWERED)
        second = seekmarks.finding.answers(handed)
        self.assertEqual(second, ANSWERED)
        self.assertIsNot(first, second)

    def test_an_answer_that_is_changed_changes_no_other(self):
        first = seekmarks.finding.answers(numbers())
        first.clear()
        self.assertEqual(seekmarks.finding.answers(numbers()), ANSWERED)

    def test_kinds(self):
        found = seekmarks.finding.answers(numbers())
        self.assertIs(type(found), list)
        self.assertEqual({type(number) for number in found}, {int})

    def test_four_hundred_calls(self):
        self.assertEqual(ask(*[find("a", "b" * 0)] * 400), [[0]] * 400)
        self.assertEqual(ask(*[find("", "a")] * 400), [[-1]] * 400)


if __name__ == "__main__":
    unittest.main()

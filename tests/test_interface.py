"""The interface: what is handed in stays as it is, nothing is kept, and answers have the form that is told."""

import random
import unittest

import seekmarks.finding
from tests.calls import align, ask, book, column, common, diff, distance, every, find, near, patch, written

BOOK = written({0: {0x301: 230}, 2: {0x301: 4}}, {0: {0xE9: (0x65, 0x301)}, 5: {0xC9: (0xE9,)}})
CALLS = (
    find("a", "aba"), book(BOOK), find([0xE9], [0x65, 0x301], like=1), every("a", "aba"), every("b", "a"), distance("abc", "acb", swap=1),
    distance("abc", "x", limit=1), near("ab", "xaby"), near("ab", "x"), find("", "x"), book(([14, 1, 1, 1], [], [], [])), find("x", "a" * 49),
    align("ab", "b"), align([0xE9], [0x65, 0x301], like=1, kind=1), common("abc", "cab"), diff("ab", "cb"), patch("ab", [2, 2, 0, 1, 1, 97, 99]),
    patch("cb", [2, 2, 0, 1, 1, 97, 99], 1), patch("ab", [2]), column(2 ** 64 - 1, 0, 2 ** 64 - 1, 1), column(1, 1, 0, 0), column(0, 0, 0, -2),
    align("a", "b", other=0), common("", [55296]), diff("", "a", kind=4), patch("", [0, 0], 2))
ANSWERED = [
    3, 1, 0, 1, 1, 0, 3, 1, 0, 2, 6, 0, 4, 0, 1, 2, 3, 2, 0, 0, 1, 1, 1, -2, 4, 1, 1, 3, 0, 1, 0, 1, -1, 3, -5, 4, 0, 1, -6,
    4, 0, 2, 2, 0, 3, 0, 1, 0, 1, 2, 9, 0, 7, 2, 2, 0, 1, 1, 97, 99, 4, 0, 2, 99, 98, 4, 0, 2, 97, 98, 3, -5, 1, 0,
    4, 0, 2 ** 64 - 2, 1, -1, 1, 2, 1, 2, 1, -1, 1, -1, 1, -1, 1, -1]


class Watched(list):
    """A list that tells when it is changed, for a while too."""

    def refuse(self, *given, **named):
        raise AssertionError("what is handed in was changed")

    append = extend = insert = pop = remove = clear = sort = reverse = refuse
    __setitem__ = __delitem__ = __iadd__ = __imul__ = refuse


def numbers():
    return [number for call in CALLS for number in call]


class InterfaceTest(unittest.TestCase):
    def test_form(self):
        self.assertEqual(seekmarks.finding.answers(numbers()), ANSWERED)

    def test_called_by_the_name_that_is_told(self):
        self.assertEqual(seekmarks.finding.answers(calls=[1, 0, 0, 0, 0]), [1, 0])

    def test_what_is_handed_in_stays(self):
        handed = numbers()
        seekmarks.finding.answers(handed)
        self.assertEqual(handed, numbers())
        self.assertEqual(seekmarks.finding.answers(Watched(numbers())), ANSWERED)

    def test_the_same_list_twice(self):
        handed = numbers()
        first = seekmarks.finding.answers(handed)
        self.assertEqual(first, ANSWERED)
        second = seekmarks.finding.answers(handed)
        self.assertEqual(second, ANSWERED)
        self.assertIsNot(first, second)

    def test_an_answer_that_is_changed_changes_no_other(self):
        first = seekmarks.finding.answers(numbers())
        first.clear()
        self.assertEqual(seekmarks.finding.answers(numbers()), ANSWERED)

    def test_kinds(self):
        found = seekmarks.finding.answers(numbers())
        self.assertIs(type(found), list)
        self.assertEqual({type(number) for number in found}, {int})

    def test_all_ten_calls_in_any_order(self):
        # What a call answers goes by the book in force alone, whatever other calls stand before it.
        chance = random.Random(51)
        calls = [call for call in CALLS if call[0] != 1]
        by_book = [{False: ask(call)[0], True: ask(book(BOOK), call)[1]} for call in calls]
        self.assertEqual({call[0] for call in calls}, set(range(2, 11)))
        for turn in range(40):
            handed, wanted, taken = [], [], False
            for k in chance.sample(range(len(calls)), len(calls)):
                if chance.randrange(4) == 0:
                    rows, answer = chance.choice(((BOOK, [0]), (([], [], [], []), [0]), (([14, 1, 1, 1], [], [], []), [-5, 4, 0])))
                    handed.append(book(rows))
                    wanted.append(answer)
                    taken = taken if answer != [0] else rows == BOOK
                handed.append(calls[k])
                wanted.append(by_book[k][taken])
            self.assertEqual(ask(*handed), wanted)

    def test_four_hundred_calls(self):
        self.assertEqual(ask(*[find("a", "b" * 0)] * 400), [[0]] * 400)
        self.assertEqual(ask(*[find("", "a")] * 400), [[-1]] * 400)
        self.assertEqual(ask(*[align("", ""), common("", ""), diff("", ""), patch("", [0, 0]), column(0, 0, 0, 1)] * 80),
                         [[0, 0], [0], [0, 2, 0, 0], [0, 0], [0, 0, 0, 1]] * 80)


if __name__ == "__main__":
    unittest.main()

"""Words and lines: each rule that joins or breaks, and words of random texts against a second writing of the rules."""

import random
import unittest

from tests.calls import borders, every, ask_by, pairs, flags, written
from tests.models import words

NAMES = ("other", "CR", "LF", "NL", "Ex", "ZWJ", "Fo", "RI", "Ka", "HL", "AL", "SQ", "DQ", "MNL", "ML", "MN", "Nu",
         "ENL", "WS")
FIRST = 0x100
PICTURE = 0x200
PICTURE_LETTER = 0x201
PICTURE_LINE = 0x202
BOOK = written({
    4: {**{FIRST + number: number for number in range(1, 19)}, PICTURE_LETTER: 10, PICTURE_LINE: 3, 0xAC00: 10},
    13: {PICTURE: flags(12), PICTURE_LETTER: flags(12), PICTURE_LINE: flags(12), (0xAC00, 0xAC01): flags(12), 0x1100: flags(12)}})


def scalar(name):
    pictures = {"Pic": PICTURE, "PicAL": PICTURE_LETTER, "PicNL": PICTURE_LINE}
    return pictures[name] if name in pictures else FIRST + NAMES.index(name)


class WordTest(unittest.TestCase):
    def held(self, written_words):
        """Words by their classes' names; | stands at the borders within."""
        parts = [part.split() for part in written_words.split("|")]
        text = [scalar(name) for part in parts for name in part]
        wanted = [0]
        for part in parts:
            wanted.append(wanted[-1] + len(part))
        self.assertEqual(borders(BOOK, 2, text), wanted, written_words)

    def test_ends_of_lines(self):
        for each in ("CR LF", "LF | CR", "CR | CR", "NL | LF", "CR | NL", "LF | Ex", "CR | Ex", "NL | ZWJ", "AL | CR LF | AL",
                     "AL | LF | AL", "AL | NL | AL", "WS | CR", "ZWJ | NL"):
            self.held(each)

    def test_pictures_and_spaces(self):
        for each in ("ZWJ Pic", "AL ZWJ Pic", "other ZWJ Pic", "ZWJ Ex | Pic", "Ex | Pic", "Pic | Pic", "ZWJ | other",
                     "WS WS WS", "WS Ex | WS", "WS | AL", "other | other", "AL ZWJ PicAL", "CR | ZWJ Pic", "ZWJ | PicNL", "AL ZWJ | PicNL | AL"):
            self.held(each)

    def test_hangul_is_no_picture(self):
        for syllable in (0xAC00, 0xAC01, 0x1100):
            self.assertEqual(borders(BOOK, 2, [scalar("ZWJ"), syllable]), [0, 1, 2])
        self.assertEqual(borders(BOOK, 2, [0xAC00, scalar("AL")]), [0, 2])

    def test_passed_over(self):
        for each in ("other Ex Fo ZWJ", "Ex Ex", "Ex | AL", "AL Ex AL", "AL Fo Ex AL", "Nu ZWJ Nu", "LF | Ex | AL",
                     "LF | Fo Ex | AL", "AL | LF | AL"):
            self.held(each)

    def test_letters(self):
        for each in ("AL AL", "AL HL", "HL AL", "HL HL", "AL ML AL", "AL MNL AL", "AL SQ HL", "AL ML Ex AL", "AL Ex ML Fo AL",
                     "AL | ML", "AL | ML | ML | AL", "AL | MN | AL", "AL | ML | Nu", "ML | AL", "AL | MNL | other",
                     "AL | DQ | AL", "AL | SQ", "AL ML Ex Ex AL Ex", "AL | ML Ex", "other | ML | AL", "AL | ML | LF | AL"):
            self.held(each)

    def test_hebrew_quotes(self):
        for each in ("HL SQ", "HL SQ | other", "HL Ex SQ Ex", "HL DQ HL", "HL DQ Ex HL", "HL Ex DQ HL", "HL | DQ", "HL | DQ | AL",
                     "AL | DQ | HL", "HL | other | HL", "HL | MN | HL", "HL | DQ | DQ | HL", "HL SQ HL", "HL SQ | Nu", "HL SQ | DQ | HL"):
            self.held(each)

    def test_digits(self):
        for each in ("Nu Nu", "AL Nu", "HL Nu", "Nu AL", "Nu HL", "Nu MN Nu", "Nu MNL Nu", "Nu SQ Nu", "Nu Ex MN Ex Nu", "Nu | MN",
                     "Nu | ML | Nu", "Nu | MN | AL", "Nu | MN | MN | Nu", "MN | Nu", "AL | MN | Nu", "Nu | MN Ex"):
            self.held(each)

    def test_katakana_and_extenders(self):
        for each in ("Ka Ka", "Ka | AL", "AL | Ka", "Ka | Nu", "AL ENL", "HL ENL", "Nu ENL", "Ka ENL", "ENL ENL", "ENL AL", "ENL HL",
                     "ENL Nu", "ENL Ka", "other | ENL", "ENL | other", "ENL Ex AL", "AL ENL Ka", "Ka ENL | ML"):
            self.held(each)

    def test_indicators(self):
        for each in ("RI RI", "RI RI | RI", "RI RI | RI RI", "RI Ex RI", "RI ZWJ RI Ex | RI", "AL | RI RI | RI", "RI | AL | RI RI",
                     "RI | LF | RI RI", "RI RI | Ka"):
            self.held(each)

    def test_edges(self):
        self.assertEqual(borders(BOOK, 2, []), [0])
        self.held("AL")
        self.held("Ex")

    def test_random_texts(self):
        chance = random.Random(6)
        for size in [3, 4, 5, 6] * 150 + [14] * 60:
            some = chance.sample(range(-1, 19), 4)
            classes = [chance.choice(some) for k in range(size)]
            text = [PICTURE if number < 0 else FIRST + number for number in classes]
            model = words([max(number, 0) for number in classes], [number < 0 for number in classes])
            self.assertEqual(borders(BOOK, 2, text), model, classes)

    def test_places_are_whole_words(self):
        a, space = scalar("AL"), scalar("WS")
        found = ask_by(BOOK, every([a], [a, a, space, a, space, a], kind=2),
                       every([a, space, a], [a, space, a, space, a], kind=2, overlap=1),
                       every([a, space, a], [a, space, a, space, a], kind=2, overlap=0))
        self.assertEqual([pairs(answer) for answer in found], [[(3, 4), (5, 6)], [(0, 3), (2, 5)], [(0, 3)]])


class LineTest(unittest.TestCase):
    BOOK = written({6: {1: 9, 2: 15, 3: 30, 4: 31, 5: 41}})

    def test_borders(self):
        for text, wanted in (
                ([], [0]), ([7], [0, 1]), ([7, 7], [0, 2]), ([7, 1, 7], [0, 2, 3]), ([7, 2, 7], [0, 2, 3]),
                ([7, 3, 7], [0, 2, 3]), ([7, 4, 7], [0, 2, 3]), ([7, 5, 7], [0, 3]), ([7, 2, 3, 7], [0, 3, 4]),
                ([3, 2], [0, 1, 2]), ([2, 2, 3], [0, 1, 3]), ([1, 3, 4], [0, 1, 2, 3]), ([7, 1], [0, 2]),
                ([2, 3], [0, 2])):
            self.assertEqual(borders(self.BOOK, 3, text), wanted, text)

    def test_places_are_whole_lines(self):
        found = ask_by(self.BOOK, every([7, 2, 3], [7, 2, 3, 7, 2, 3, 7, 3], kind=3), every([7], [7, 2, 7], kind=3))
        self.assertEqual([pairs(answer) for answer in found], [[(0, 3), (3, 6)], [(2, 3)]])


if __name__ == "__main__":
    unittest.main()

"""K2: canonically equal texts and needles have as many places by clusters, and what is before and in them is equal."""

import random
import unicodedata
import unittest

from tests import models
from tests.calls import ask, ask_by, every, flags, pairs, scalars, written

ACUTE, MACRON, DOT, CEDILLA, LINKER = 0x301, 0x304, 0x323, 0x327, 0x94D
VOWEL = 0x16D67
CLASSES = {ACUTE: 230, MACRON: 230, DOT: 220, CEDILLA: 202, LINKER: 9, 0x93C: 7}
STEPS = {
    0xE9: (0x65, ACUTE), 0xC9: (0x45, ACUTE), 0x113: (0x65, MACRON), 0x1E17: (0x113, ACUTE), 0x229: (0x65, CEDILLA),
    0x212B: (0xC5,), 0xC5: (0x41, 0x30A), 0x16D68: (VOWEL, VOWEL), 0x929: (0x928, 0x93C), 0x344: (0x308, ACUTE)}
CLASSES.update({0x30A: 230, 0x308: 230})
BOOK = written(
    {0: CLASSES, 2: {**dict.fromkeys(CLASSES, 4), 0x344: 4, VOWEL: 10, 0x16D68: 10, 0x903: 8},
     3: {LINKER: 1, 0x93C: 3, 0x928: 2, 0x929: 2},
     13: {0x212B: flags(15), 0x344: flags(15)}},
    {0: STEPS, 1: {0xFB01: (0x66, 0x69), 0x2460: (0xC9,)}, 5: {0x45: (0x65,), 0x41: (0x61,), 0xC9: (0xE9,), 0xDF: (0x73, 0x73)}})
LETTERS = [0x61, 0x65, 0x45, 0xE9, 0xC9, 0x113, 0x1E17, 0x229, 0x212B, 0x41, 0x16D68, VOWEL, 0x929, 0x928, 0xAC00, 0xAC01,
           0xD4DB, 0x1100, 0x1161, 0x11A8, 0xFB01, 0x66, 0xDF, 0x2460, 0x344]


def normal(text):
    return models.normal(text, STEPS, CLASSES)


def rewritten(chance, text):
    """The text in another way that is canonically equal: some steps taken, some undone, marks passed by marks."""
    text = list(text)
    for turn in range(8):
        way = chance.randrange(3)
        k = chance.randrange(len(text)) if text else None
        if k is None:
            return text
        if way == 0:
            made = text[:k] + models.normal([text[k]], STEPS, {}) + text[k + 1:]
        elif way == 1 and k + 1 < len(text):
            made = text[:k] + [text[k + 1], text[k]] + text[k + 2:]
        else:
            fitting = [one for one in list(STEPS) + [0xAC00, 0xAC01, 0xD4DB] if normal([one]) == normal(text[k:k + 2])]
            made = text[:k] + [chance.choice(fitting)] + text[k + 2:] if fitting else text
        if normal(made) == normal(text):
            text = made
    return text


class CanonicalTest(unittest.TestCase):
    def held(self, needle, other_needle, text, other_text, like):
        first, second = [pairs(answer) for answer in ask_by(
            BOOK, every(needle, text, like, 1), every(other_needle, other_text, like, 1))]
        self.assertEqual(len(first), len(second), (needle, other_needle, text, other_text, like))
        for (a, b), (c, d) in zip(first, second):
            self.assertEqual(normal(text[:a]), normal(other_text[:c]))
            self.assertEqual(normal(text[a:b]), normal(other_text[c:d]))
        return len(first)

    def test_letters_with_marks(self):
        text = [0x61, 0x1E17, DOT, 0x61, 0x1E17, DOT]
        other = [0x61, 0x65, DOT, MACRON, ACUTE, 0x61, 0x113, ACUTE, DOT]
        for like in (1, 2, 3):
            self.assertEqual(self.held([0x1E17, DOT], [0x65, DOT, MACRON, ACUTE], text, other, like), 2)
            self.assertEqual(self.held([0x61], [0x61], text, other, like), 2)
            self.assertEqual(self.held([0x65], [0x65], text, other, like), 0)

    def test_singles_and_steps_of_steps(self):
        for like in (1, 2, 3):
            self.assertEqual(self.held([0x212B], [0x41, 0x30A], [0x212B, 0xC5, 0x41], [0xC5, 0x41, 0x30A, 0x41], like), 2)

    def test_hangul_goes_by_rule(self):
        text = [0xAC00, 0xAC01, 0x1100, 0x1161]
        other = [0x1100, 0x1161, 0x1100, 0x1161, 0x11A8, 0xAC00]
        for like in (1, 2, 3):
            self.assertEqual(self.held([0xAC00], [0x1100, 0x1161], text, other, like), 2)
            self.assertEqual(self.held([0xAC01], [0xAC00, 0x11A8], text, other, like), 1)

    def test_hangul_of_the_empty_book(self):
        for syllable in (0xAC00, 0xAC01, 0xAC1B, 0xAC1C, 0xD788, 0xD7A3, 0xCE58):
            apart = scalars(unicodedata.normalize("NFD", chr(syllable)))
            for like in (1, 2, 3):
                found = ask(every([syllable], apart, like, 1), every(apart, [syllable], like, 1), every(apart, [syllable], 0, 1))
                self.assertEqual([pairs(answer) for answer in found], [[(0, len(apart))], [(0, 1)], []])

    def test_folded_before_and_behind(self):
        for like in (2, 3):
            self.assertEqual(self.held([0xC9], [0x45, ACUTE], [0xE9, 0xC9], [0x65, ACUTE, 0x45, ACUTE], like), 2)
        self.assertEqual(self.held([0xC9], [0x45, ACUTE], [0xE9, 0xC9], [0xE9, 0x45, ACUTE], 1), 1)
        self.assertEqual(self.held([0xE9], [0x65, ACUTE], [0x2460, 0xE9], [0x2460, 0x65, ACUTE], 3), 2)

    def test_random_texts(self):
        chance = random.Random(9)
        seen = 0
        for turn in range(500):
            some = chance.sample(LETTERS, 3) + chance.sample(sorted(CLASSES), 2)
            text = [chance.choice(some) for k in range(chance.randrange(1, 9))]
            begin = chance.randrange(len(text))
            needle = text[begin:begin + chance.randrange(1, 4)]
            seen += self.held(needle, rewritten(chance, needle), text, rewritten(chance, text), chance.randrange(1, 4))
        self.assertGreater(seen, 200)

    def test_distances_of_canonically_equal_texts(self):
        chance = random.Random(10)
        for turn in range(150):
            text = [chance.choice(LETTERS + sorted(CLASSES)) for k in range(chance.randrange(1, 9))]
            call = [4, chance.randrange(1, 4), 1, 1, 1, 1, 99]
            other = rewritten(chance, text)
            self.assertEqual(ask_by(BOOK, call + [len(text)] + text + [len(other)] + other), [[0]])

    def test_against_the_letters_of_the_world(self):
        # Rows and classes as Python's own tables have them for Latin letters, held against its form D.
        steps, classes = {}, {}
        for number in list(range(0xC0, 0x250)) + list(range(0x1E00, 0x1EFA)):
            step = unicodedata.decomposition(chr(number))
            if step and not step.startswith("<"):
                steps[number] = tuple(int(part, 16) for part in step.split())
        for row in steps.values():
            for scalar in row:
                if unicodedata.combining(chr(scalar)):
                    classes[scalar] = unicodedata.combining(chr(scalar))
        rows = written({0: classes, 2: dict.fromkeys(classes, 4)}, {0: steps})
        chance = random.Random(11)
        for turn in range(150):
            text = [chance.choice(sorted(steps) + sorted(classes) * 4) for k in range(4)]
            apart = scalars(unicodedata.normalize("NFD", "".join(map(chr, text))))
            put = scalars(unicodedata.normalize("NFC", "".join(map(chr, text))))
            found = ask_by(rows, every(apart, text, 1), every(put, text, 1), every(text, apart, 1))
            self.assertEqual([pairs(answer)[:1] for answer in found[:2]], [[(0, 4)]] * 2)
            self.assertEqual(pairs(found[2]), [(0, len(apart))])


if __name__ == "__main__":
    unittest.main()

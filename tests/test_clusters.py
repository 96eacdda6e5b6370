"""Clusters: each rule that joins or breaks, and random texts against a pattern of whole clusters."""

import random
import unittest

from tests.calls import borders, every, ask_by, pairs, flags, written
from tests.models import clusters

LETTERS = {
    "o": 0x6F, "r": 13, "n": 10, "c": 1, "e": 0x300, "i": 0x301, "j": 0x302, "k": 0x303, "z": 0x200D, "I": 0x1F1E6,
    "p": 0x600, "s": 0x903, "L": 0x1100, "V": 0x1161, "T": 0x11A8, "W": 0xAC00, "X": 0xAC01, "G": 0x1F600, "C": 0x915}

# Hangul is given other values too: it goes by rule all the same.
BOOK = written({
    2: {13: 1, 10: 2, 1: 3, 0x300: 4, 0x301: 4, 0x302: 5, 0x303: 4, 0x200D: 5, 0x1F1E6: 6, 0x600: 7, 0x903: 8,
        0x1112: 3},
    3: {0x301: 3, 0x302: 3, 0x303: 1, 0x915: 2, 0x1100: 2, 0xAC00: 2},
    13: {0x1F600: flags(12), 0x1161: flags(12), 0xAC01: flags(12)}})


def text(letters):
    return [LETTERS[letter] for letter in letters]


class ClusterTest(unittest.TestCase):
    def held(self, *parts):
        letters = "".join(parts)
        wanted = [len("".join(parts[:k])) for k in range(len(parts) + 1)]
        self.assertEqual(borders(BOOK, 1, text(letters)), wanted, parts)

    def test_ends_of_lines(self):
        self.held("rn")
        self.held("n", "r")
        self.held("r", "r")
        self.held("r", "e")
        self.held("n", "e")
        self.held("c", "e")
        self.held("c", "s")
        self.held("o", "r", "o")
        self.held("o", "n", "o")
        self.held("o", "c", "o")
        self.held("p", "c")
        self.held("p", "rn")

    def test_hangul(self):
        for joined in ("LL", "LV", "LW", "LX", "WV", "WT", "VV", "VT", "XT", "TT", "LVT", "LWVT"):
            self.held(joined)
        for a, b in ("LT", "VL", "VW", "VX", "WL", "WW", "WX", "XV", "XL", "XX", "XW", "TV", "TL", "TW", "TX"):
            self.held(a, b)
        for a, b in ("Lo", "oL", "oV", "oT", "Wo", "To"):
            self.held(a, b)

    def test_hangul_goes_by_its_places(self):
        outer = (0x10FF, 0x1113, 0x1160, 0x1176, 0x11A7, 0x11C3, 0xABFF, 0xD7A4)
        for scalar in outer:
            self.assertEqual(borders(BOOK, 1, [0x1100, scalar]), [0, 1, 2])
            self.assertEqual(borders(BOOK, 1, [0xAC00, scalar]), [0, 1, 2])
        self.assertEqual(borders(BOOK, 1, [0x1112, 0x1175, 0x11C2]), [0, 3])
        self.assertEqual(borders(BOOK, 1, [0xD788, 0x1175]), [0, 2])
        self.assertEqual(borders(BOOK, 1, [0xD7A3, 0x1175]), [0, 1, 2])
        self.assertEqual(borders(BOOK, 1, [0xD7A3, 0x11C2]), [0, 2])
        self.assertEqual(borders(BOOK, 1, [0xAC1B, 0x1161]), [0, 1, 2])
        self.assertEqual(borders(BOOK, 1, [0xAC1C, 0x1161]), [0, 2])

    def test_other_scalars_of_hangul_classes(self):
        classes = {9: "L", 10: "V", 11: "T", 12: "W", 13: "X"}
        rows = written({2: {0xA900 + number: number for number in classes}})
        for a in classes:
            for b in classes:
                wanted = clusters(classes[a] + classes[b])
                self.assertEqual(borders(rows, 1, [0xA900 + a, 0xA900 + b]), wanted)
                self.assertEqual(borders(rows, 1, text(classes[a]) + [0xA900 + b]), wanted)

    def test_hangul_is_no_consonant_and_no_picture(self):
        self.held("Lk", "C")
        self.held("Ck", "W")
        self.held("Vz", "G")
        self.held("Gz", "X")

    def test_extends_spacing_marks_prepends(self):
        self.held("oe")
        self.held("oz")
        self.held("os")
        self.held("oesze", "o")
        self.held("po")
        self.held("ppo")
        self.held("pp")
        self.held("pL")
        self.held("e", "o")
        self.held("s", "o")
        self.held("o", "p")

    def test_conjuncts(self):
        self.held("CkC")
        self.held("CikC")
        self.held("CkiC")
        self.held("CjkjC")
        self.held("CkkCkC")
        self.held("CiC"[:2], "C")
        self.held("C", "C")
        self.held("Cke", "C")
        self.held("Cek", "C")
        self.held("ok", "C")
        self.held("k", "C")
        self.held("Ck", "o")
        self.held("CksC"[:3], "C")

    def test_pictures(self):
        self.held("GzG")
        self.held("GezG")
        self.held("GekizG")
        self.held("GzGzG")
        self.held("GjG")
        self.held("G", "G")
        self.held("Ge", "G")
        self.held("Gzz", "G")
        self.held("Gze", "G")
        self.held("oz", "G")
        self.held("z", "G")
        self.held("ez", "G")
        self.held("Gsz", "G")
        self.held("Gz", "o")

    def test_indicators(self):
        self.held("II")
        self.held("II", "I")
        self.held("II", "II")
        self.held("o", "II", "I", "o")
        self.held("Ie", "II")
        self.held("pII", "I")
        self.held("Iz", "I")

    def test_edges(self):
        self.assertEqual(borders(BOOK, 1, []), [0])
        self.held("o")
        self.held("o", "o")

    def test_random_texts(self):
        chance = random.Random(5)
        for size in [3, 4, 5, 6] * 150 + [12] * 60:
            some = chance.sample("orncieejkkzIpsLVTWXGC", 5)
            letters = "".join(chance.choice(some) for k in range(size))
            self.assertEqual(borders(BOOK, 1, text(letters)), clusters(letters), letters)

    def test_places_are_whole_clusters(self):
        found = ask_by(BOOK, every(text("o"), text("oeoCkCoeo"), kind=1), every(text("oe"), text("oeoeo"), kind=1),
                       every(text("C"), text("CkCC"), kind=1), every(text("oo"), text("oooe"), kind=1))
        self.assertEqual([pairs(answer) for answer in found], [
            [(2, 3), (8, 9)], [(0, 2), (2, 4)], [(3, 4)], [(0, 2)]])


if __name__ == "__main__":
    unittest.main()

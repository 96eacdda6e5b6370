"""A book of some letters, marks and ends of lines, and the marks and units of texts by it, written a second time."""

from tests import models
from tests.calls import borders, flags, written

ACUTE, DOT, E_ACUTE, LIGATURE = 0x301, 0x323, 0xE9, 0xFB01
A, B, C, E, F, I = 97, 98, 99, 101, 102, 105
FOLDS = {0x41: (A,), 0x42: (B,), 0xDF: (115, 115), 0x45: (E,), 0x46: (F,)}
COMPATIBLE = {LIGATURE: (F, I), 0xFF21: (0x41,), 0xB2: (50,)}
STEPS = {E_ACUTE: (E, ACUTE), 0xC9: (0x45, ACUTE), 0x212A: (107,)}
CLASSES = {ACUTE: 230, DOT: 220}
BOOK = written(
    {0: CLASSES, 2: {ACUTE: 4, DOT: 4, 13: 1, 10: 2},
     4: {(97, 122): 10, (65, 90): 10, E_ACUTE: 10, 0xC9: 10, 32: 18, ACUTE: 4, DOT: 4}, 6: {13: 15, 10: 30}, 13: {0x212A: flags(15)}},
    {0: STEPS, 1: COMPATIBLE, 5: FOLDS})


def mark(like, text):
    """A text's mark, written a second time."""
    text = list(text)
    if like == 0:
        return text
    apart = models.normal(text, STEPS, CLASSES)
    if like == 1:
        return apart
    once = [part for scalar in apart for part in FOLDS.get(scalar, (scalar,))]
    if like == 2:
        return models.normal(once, STEPS, CLASSES)
    for again in range(2):
        once = models.normal(once, {**STEPS, **COMPATIBLE}, CLASSES)
        if again == 0:
            once = [part for scalar in once for part in FOLDS.get(scalar, (scalar,))]
    return once


def units(like, kind, text):
    """The marks of a text's units, at the borders that the program tells."""
    cuts = borders(BOOK, kind, text)
    return [tuple(mark(like, text[a:b])) for a, b in zip(cuts, cuts[1:])]

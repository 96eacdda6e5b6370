"""A text's borders by kind, and the marks of the units between them."""

from seekmarks.book import LINE
from seekmarks.clusters import cluster_breaks
from seekmarks.forms import mark
from seekmarks.words import word_breaks

LINE_BK = 9
LINE_CR = 15
LINE_LF = 30
LINE_NL = 31


def line_breaks(book, text):
    classes = [book.value_at(LINE, scalar) for scalar in text]
    breaks = []
    for p in range(1, len(text)):
        within = classes[p - 1] == LINE_CR and classes[p] == LINE_LF
        if classes[p - 1] in (LINE_BK, LINE_CR, LINE_LF, LINE_NL) and not within:
            breaks.append(p)
    return breaks


def inner_borders(book, kind, text):
    if kind == 0:
        return list(range(1, len(text)))
    if kind == 1:
        return cluster_breaks(book, text)
    if kind == 2:
        return word_breaks(book, text)
    return line_breaks(book, text)


def borders(book, kind, text):
    if len(text) == 0:
        return [0]
    return [0] + inner_borders(book, kind, text) + [len(text)]


def unit_marks(book, like, text, cuts):
    """The marks of what stands between each of the cuts and the next."""
    return [tuple(mark(book, like, text[cuts[k]:cuts[k + 1]])) for k in range(len(cuts) - 1)]

"""Where a text falls into clusters."""

from seekmarks.book import CLUSTER, CONJUNCT, PICTOGRAPHIC
from seekmarks.scalars import is_beginning, is_end, is_hangul, is_middle, is_open_syllable

CR = 1
LF = 2
CONTROL = 3
EXTEND = 4
ZWJ = 5
RI = 6
PREPEND = 7
SPACING = 8
L = 9
V = 10
T = 11
LV = 12
LVT = 13

LINKER = 1
CONSONANT = 2
CONJUNCT_EXTEND = 3


class Traits:
    """What the rules of clusters ask of a text's scalars."""

    def __init__(self, book, text):
        self.clusters = [cluster_class(book, scalar) for scalar in text]
        self.conjuncts = [conjunct_class(book, scalar) for scalar in text]
        self.pictures = [is_pictographic(book, scalar) for scalar in text]


def hangul_class(scalar):
    if is_beginning(scalar):
        return L
    if is_middle(scalar):
        return V
    if is_end(scalar):
        return T
    if is_open_syllable(scalar):
        return LV
    return LVT


def cluster_class(book, scalar):
    if is_hangul(scalar):
        return hangul_class(scalar)
    return book.value_at(CLUSTER, scalar)


def conjunct_class(book, scalar):
    if is_hangul(scalar):
        return 0
    return book.value_at(CONJUNCT, scalar)


def is_pictographic(book, scalar):
    return not is_hangul(scalar) and book.has_flag(scalar, PICTOGRAPHIC)


def hangul_joins(a, b):
    if a == L:
        return b in (L, V, LV, LVT)
    if a in (LV, V):
        return b in (V, T)
    return a in (LVT, T) and b == T


def conjunct_joins(conjuncts, p):
    """Whether a consonant stands at p behind a consonant that linkers, or they and extends, tie to it."""
    if conjuncts[p] != CONSONANT:
        return False
    linked = False
    k = p - 1
    while k >= 0 and conjuncts[k] in (LINKER, CONJUNCT_EXTEND):
        linked = linked or conjuncts[k] == LINKER
        k -= 1
    return linked and k >= 0 and conjuncts[k] == CONSONANT


def picture_joins(traits, p):
    if not traits.pictures[p] or traits.clusters[p - 1] != ZWJ:
        return False
    k = p - 2
    while k >= 0 and traits.clusters[k] == EXTEND:
        k -= 1
    return k >= 0 and traits.pictures[k]


def indicator_joins(clusters, p):
    if clusters[p] != RI:
        return False
    k = p - 1
    while k >= 0 and clusters[k] == RI:
        k -= 1
    return (p - 1 - k) % 2 == 1


def joins(traits, p):
    """Whether one cluster goes on at place p."""
    a = traits.clusters[p - 1]
    b = traits.clusters[p]
    if a == CR and b == LF:
        return True
    if a in (CR, LF, CONTROL) or b in (CR, LF, CONTROL):
        return False
    if hangul_joins(a, b) or b in (EXTEND, ZWJ, SPACING) or a == PREPEND:
        return True
    return conjunct_joins(traits.conjuncts, p) or picture_joins(traits, p) or indicator_joins(traits.clusters, p)


def cluster_breaks(book, text):
    """The places within the text at which clusters are parted."""
    traits = Traits(book, text)
    return [p for p in range(1, len(text)) if not joins(traits, p)]

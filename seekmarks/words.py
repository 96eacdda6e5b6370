"""Where a text falls into words."""

from seekmarks.book import WORD
from seekmarks.clusters import is_pictographic

NONE = -1
CR = 1
LF = 2
NEWLINE = 3
EXTEND = 4
ZWJ = 5
FORMAT = 6
RI = 7
KATAKANA = 8
HEBREW_LETTER = 9
A_LETTER = 10
SINGLE_QUOTE = 11
DOUBLE_QUOTE = 12
MID_NUM_LET = 13
MID_LETTER = 14
MID_NUM = 15
NUMERIC = 16
EXTEND_NUM_LET = 17
SPACE = 18


class WordTraits:
    """What the rules of words ask of a text: its scalars' classes, and the heads of what marks are passed over in."""

    def __init__(self, book, text):
        self.classes = [book.value_at(WORD, scalar) for scalar in text]
        self.pictures = [is_pictographic(book, scalar) for scalar in text]
        self.heads = []
        self.head_places = []
        for k in range(len(text)):
            if begins(self.classes, k):
                self.heads.append(self.classes[k])
            self.head_places.append(len(self.heads) - 1)


def ends_line(word):
    return word in (CR, LF, NEWLINE)


def is_passed_over(word):
    return word in (EXTEND, FORMAT, ZWJ)


def is_letter(word):
    return word in (A_LETTER, HEBREW_LETTER)


def stands_between_letters(word):
    return word in (MID_LETTER, MID_NUM_LET, SINGLE_QUOTE)


def stands_between_digits(word):
    return word in (MID_NUM, MID_NUM_LET, SINGLE_QUOTE)


def begins(classes, k):
    return k == 0 or ends_line(classes[k - 1]) or not is_passed_over(classes[k])


def class_behind(classes, p):
    """The class of the first scalar behind p that is not passed over."""
    for k in range(p + 1, len(classes)):
        if not is_passed_over(classes[k]):
            return classes[k]
    return NONE


def letters_join(aa, a, b, bb):
    if is_letter(a) and (is_letter(b) or stands_between_letters(b) and is_letter(bb)):
        return True
    return is_letter(aa) and stands_between_letters(a) and is_letter(b)


def quotes_join(aa, a, b, bb):
    if a == HEBREW_LETTER and (b == SINGLE_QUOTE or b == DOUBLE_QUOTE and bb == HEBREW_LETTER):
        return True
    return aa == HEBREW_LETTER and a == DOUBLE_QUOTE and b == HEBREW_LETTER


def digits_join(aa, a, b, bb):
    if a == NUMERIC and (b == NUMERIC or is_letter(b) or stands_between_digits(b) and bb == NUMERIC):
        return True
    return b == NUMERIC and (is_letter(a) or aa == NUMERIC and stands_between_digits(a))


def can_be_extended(word):
    return is_letter(word) or word in (NUMERIC, KATAKANA)


def extenders_join(a, b):
    if b == EXTEND_NUM_LET:
        return can_be_extended(a) or a == EXTEND_NUM_LET
    return a == EXTEND_NUM_LET and can_be_extended(b) or a == KATAKANA and b == KATAKANA


def indicators_pair(heads, place):
    """Whether the RIs in a row that end with this head are odd in number."""
    k = place
    while k >= 0 and heads[k] == RI:
        k -= 1
    return (place - k) % 2 == 1


def heads_join(traits, p):
    place = traits.head_places[p - 1]
    aa = traits.heads[place - 1] if place > 0 else NONE
    a = traits.heads[place]
    b = traits.classes[p]
    bb = class_behind(traits.classes, p)
    if letters_join(aa, a, b, bb) or quotes_join(aa, a, b, bb) or digits_join(aa, a, b, bb):
        return True
    return extenders_join(a, b) or b == RI and indicators_pair(traits.heads, place)


def joins(traits, p):
    """Whether one word goes on at place p."""
    a = traits.classes[p - 1]
    b = traits.classes[p]
    if a == CR and b == LF:
        return True
    if ends_line(a) or ends_line(b):
        return False
    if a == ZWJ and traits.pictures[p] or a == SPACE and b == SPACE or is_passed_over(b):
        return True
    return heads_join(traits, p)


def word_breaks(book, text):
    """The places within the text at which words end."""
    traits = WordTraits(book, text)
    return [p for p in range(1, len(text)) if not joins(traits, p)]

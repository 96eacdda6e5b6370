"""The rules of books that speak of properties, partners, digits, scripts and weights."""

from seekmarks.book import BRACKET, CLUSTER, CONJUNCT, DIGIT, DIRECTION, MIRROR, PARTNER, PICTOGRAPHIC
from seekmarks.clusters import CONJUNCT_EXTEND, CONSONANT, EXTEND, LINKER, SPACING, V, ZWJ
from seekmarks.scalars import is_scalar

CASED = 2
MIRRORED = 13
OTHER_NEUTRAL = 13
UNNAMED_SCRIPTS = 3


def has_bit(value, bit):
    return value >> bit & 1 == 1


def both_ways(book, number, scalar, row):
    return book.row_of(number, row[0]) == (scalar,)


def mirror_fits(book, scalar, row):
    return both_ways(book, MIRROR, scalar, row) and book.has_flag(scalar, MIRRORED)


def partner_fits(book, scalar, row):
    # Brackets are 1 and 2 alone, so just an opening and a closing one come to 3.
    sides = book.value_at(BRACKET, scalar) + book.value_at(BRACKET, row[0])
    return sides == 3 and both_ways(book, PARTNER, scalar, row) and book.value_at(DIRECTION, scalar) == OTHER_NEUTRAL


def all_have_partners(book, first, last, value):
    for scalar in range(first, last + 1):
        if is_scalar(scalar) and not book.has_row(PARTNER, scalar):
            return False
    return True


def digit_fits(book, first, last, value):
    nought = first - value + 1
    return first == last and all([book.value_at(DIGIT, nought + k) == k + 1 for k in range(10)])


def has_script(book, number):
    return number < (len(book.names) or UNNAMED_SCRIPTS)


def script_fits(book, first, last, value):
    return has_script(book, value)


def extensions_fit(book, scalar, row):
    return all([has_script(book, number) for number in row])


def flags_fit(book, first, last, value):
    return (not has_bit(value, 7) or has_bit(value, 8)) and not has_bit(value, 16)


def marks_extend(book, first, last, value):
    if book.values_over(CLUSTER, first, last) != [EXTEND]:
        return False
    return CONSONANT not in book.values_over(CONJUNCT, first, last)


def classes_as_first(book, scalar, row):
    first = row[0]
    for number in (CLUSTER, CONJUNCT):
        if book.value_at(number, scalar) != book.value_at(number, first):
            return False
    if book.has_flag(scalar, PICTOGRAPHIC) != book.has_flag(first, PICTOGRAPHIC):
        return False
    return len(row) == 1 or second_fits(book, first, row[1])


def second_fits(book, first, second):
    cluster = book.value_at(CLUSTER, first)
    if cluster not in (0, EXTEND, SPACING, V):
        return False
    if book.value_at(CLUSTER, second) != (V if cluster == V else EXTEND):
        return False
    conjunct = book.value_at(CONJUNCT, first)
    if conjunct in (CONSONANT, CONJUNCT_EXTEND):
        return book.value_at(CONJUNCT, second) == CONJUNCT_EXTEND
    return conjunct != LINKER or book.value_at(CONJUNCT, second) in (LINKER, CONJUNCT_EXTEND)


def weight_fits(row, place):
    variable = row[place] >> 31
    first = row[place] >> 15 & 65535
    second = row[place] >> 5 & 1023
    third = row[place] & 31
    if variable > 0 and first == 0:
        return False
    if first > 0 and second == 0 and third == 0:
        return place > 0 and row[place - 1] >> 31 == variable
    return (first == 0 or second > 0) and (second == 0 or third > 0)


def all_weights_fit(row):
    return all([weight_fits(row, place) for place in range(len(row))])


def row_weights_fit(book, scalar, row):
    return all_weights_fit(row)


def key_weights_fit(book, key, result):
    return all_weights_fit(result)


def scalar_cased(book, scalar, row):
    return book.has_flag(scalar, CASED)


def case_flags_fit(book, first, last, value):
    return not has_bit(value, 0) and not has_bit(value, 1) or has_bit(value, CASED)


def conjuncts_fit(book, first, last, value):
    clusters = book.values_over(CLUSTER, first, last)
    if value == CONSONANT:
        return clusters == [0]
    return all([cluster in (EXTEND, ZWJ) for cluster in clusters])


def pictures_fit(book, first, last, value):
    return not has_bit(value, PICTOGRAPHIC) or book.values_over(CLUSTER, first, last) == [0]

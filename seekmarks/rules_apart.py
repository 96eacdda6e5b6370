"""The rules of books that speak of taking apart and folding."""

from seekmarks.book import COMBINING, DECOMPOSITION, FOLD, PROTOTYPE, SIMPLE_FOLD
from seekmarks.forms import (
    DEEPEST, LONGEST, all_apart_for_compatibility, all_taken_apart, apart_for_compatibility, folded, taken_apart)
from seekmarks.refusals import BrokenRule
from seekmarks.scalars import is_hangul, make_syllable, range_has_hangul

IGNORABLE = 11
NEVER_COMPOSED = 15


def no_steps(book, text):
    return all([len(book.canonical_step(scalar)) == 0 for scalar in text])


def no_rows(book, number, text):
    return not any([book.has_row(number, scalar) for scalar in text])


def classes_in_order(book, text):
    """Whether no scalar of a class stands right behind one of a greater class."""
    classes = [book.value_at(COMBINING, scalar) for scalar in text]
    return all([classes[k] == 0 or classes[k - 1] <= classes[k] for k in range(1, len(classes))])


def firsts_end(book, scalar, row):
    first = scalar
    for step_number in range(DEEPEST):
        step = book.canonical_step(first)
        if step:
            first = step[0]
    return no_steps(book, [first]) and no_steps(book, row[1:])


def row_without_hangul(book, scalar, row):
    return not any([is_hangul(part) for part in (scalar,) + row])


def scalar_not_hangul(book, scalar, row):
    return not is_hangul(scalar)


def range_without_hangul(book, first, last, value):
    return not range_has_hangul(first, last)


def apart_in_order(book, scalar, row):
    parts = taken_apart(book, scalar)
    return len(parts) <= LONGEST and classes_in_order(book, parts)


def without_decomposition(book, scalar, row):
    return not book.has_row(DECOMPOSITION, scalar)


def compatibility_ends(book, scalar, row):
    return apart_for_compatibility(book, scalar) is not None


def composing_rows(book):
    """How often each row of map 0 stands there for a scalar that may be composed."""
    counts = {}
    for number, scalar, row in book.maps:
        if number == DECOMPOSITION and not book.has_flag(scalar, NEVER_COMPOSED):
            counts[row] = counts.get(row, 0) + 1
    return counts


def composes(book, scalar, row):
    """Whether the row's two can make the scalar, other rows aside."""
    if len(row) < 2 or make_syllable(row[0], row[1]):
        return False
    return book.value_at(COMBINING, scalar) == 0 and book.value_at(COMBINING, row[0]) == 0


def judge_composing(book):
    counts = composing_rows(book)
    for record, (number, scalar, row) in enumerate(book.maps):
        if number != DECOMPOSITION or book.has_flag(scalar, NEVER_COMPOSED):
            continue
        if counts[row] > 1 or not composes(book, scalar, row):
            raise BrokenRule(24, record)


def fold_ends(book, scalar, row):
    return no_rows(book, FOLD, row) and no_rows(book, FOLD, all_taken_apart(book, row))


def simple_fold_ends(book, scalar, row):
    return no_rows(book, SIMPLE_FOLD, row)


def prototype_ends(book, scalar, row):
    parts = all_taken_apart(book, row)
    return no_rows(book, PROTOTYPE, parts) and not any([book.has_flag(part, IGNORABLE) for part in parts])


def key_in_form_d(book, key, result):
    return no_steps(book, key) and classes_in_order(book, key) and book.value_at(COMBINING, key[0]) == 0


def scalar_without_step(book, scalar, row):
    return no_steps(book, [scalar])


def scalar_without_class(book, scalar, row):
    return book.value_at(COMBINING, scalar) == 0


def folded_apart(book, scalar):
    return all_apart_for_compatibility(book, folded(book, [scalar]))


def judge_folding(book, number):
    """Rule 39 for one map's scalars."""
    settled = {}
    for record, (map_number, scalar, row) in enumerate(book.maps):
        if map_number != number:
            continue
        for part in folded_apart(book, scalar):
            # Many rows come to the same scalars, and what one of them comes to may be long.
            if part not in settled:
                settled[part] = no_rows(book, FOLD, folded_apart(book, part))
            if not settled[part]:
                raise BrokenRule(39, record)

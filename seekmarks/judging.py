"""A book judged by the rules from 20 on, in the order in which the document has them."""

from seekmarks.book import (
    BRACKET, COMBINING, COMPATIBILITY, CONJUNCT, DECOMPOSITION, DIGIT, EXTENSIONS, FLAGS, FOLD, MIRROR, PARTNER,
    PROTOTYPE, SCRIPT, SIMPLE_FOLD, WEIGHTS)
from seekmarks.refusals import BrokenRule
from seekmarks.rules_apart import (
    apart_in_order, compatibility_ends, firsts_end, fold_ends, judge_composing, judge_folding, key_in_form_d,
    prototype_ends, range_without_hangul, row_without_hangul, scalar_not_hangul, scalar_without_class,
    scalar_without_step, simple_fold_ends, without_decomposition)
from seekmarks.rules_classes import (
    all_have_partners, case_flags_fit, classes_as_first, conjuncts_fit, digit_fits, extensions_fit, flags_fit,
    key_weights_fit, marks_extend, mirror_fits, partner_fits, pictures_fit, row_weights_fit, scalar_cased,
    script_fits)

UPPER = 2
LOWER = 3
TITLE = 4
CONTRACTIONS = 0


def hold_rows(book, rule, wanted, holds):
    for record, (number, scalar, row) in enumerate(book.maps):
        if number == wanted and not holds(book, scalar, row):
            raise BrokenRule(rule, record)


def hold_ranges(book, rule, wanted, holds):
    for record, (number, first, last, value) in enumerate(book.properties):
        if number == wanted and not holds(book, first, last, value):
            raise BrokenRule(rule, record)


def hold_keys(book, rule, wanted, holds):
    for record, (kind, key, result) in enumerate(book.sequences):
        if kind == wanted and not holds(book, key, result):
            raise BrokenRule(rule, record)


def judge_decompositions(book):
    """Rules 20 to 25; the later ones lean on the earlier: what they follow comes to an end."""
    hold_rows(book, 20, DECOMPOSITION, firsts_end)
    hold_rows(book, 21, DECOMPOSITION, row_without_hangul)
    hold_rows(book, 21, COMPATIBILITY, scalar_not_hangul)
    hold_ranges(book, 21, COMBINING, range_without_hangul)
    hold_rows(book, 22, DECOMPOSITION, apart_in_order)
    hold_rows(book, 23, COMPATIBILITY, without_decomposition)
    hold_rows(book, 23, COMPATIBILITY, compatibility_ends)
    hold_rows(book, 23, DECOMPOSITION, compatibility_ends)
    judge_composing(book)
    hold_rows(book, 25, FOLD, fold_ends)
    hold_rows(book, 25, SIMPLE_FOLD, simple_fold_ends)


def judge_properties(book):
    """Rules 26 to 33."""
    hold_rows(book, 26, MIRROR, mirror_fits)
    hold_rows(book, 27, PARTNER, partner_fits)
    hold_ranges(book, 27, BRACKET, all_have_partners)
    hold_ranges(book, 28, DIGIT, digit_fits)
    hold_ranges(book, 29, SCRIPT, script_fits)
    hold_rows(book, 29, EXTENSIONS, extensions_fit)
    hold_rows(book, 30, PROTOTYPE, prototype_ends)
    hold_ranges(book, 31, FLAGS, flags_fit)
    hold_ranges(book, 32, COMBINING, marks_extend)
    hold_rows(book, 33, DECOMPOSITION, classes_as_first)


def judge_rest(book):
    """Rules 34 to 41."""
    hold_rows(book, 34, WEIGHTS, row_weights_fit)
    hold_keys(book, 34, CONTRACTIONS, key_weights_fit)
    hold_keys(book, 35, CONTRACTIONS, key_in_form_d)
    hold_rows(book, 36, WEIGHTS, scalar_without_step)
    for number in (UPPER, LOWER, TITLE):
        hold_rows(book, 37, number, scalar_cased)
    hold_ranges(book, 37, FLAGS, case_flags_fit)
    hold_rows(book, 38, COMPATIBILITY, scalar_without_class)
    for number in (FOLD, COMPATIBILITY, DECOMPOSITION):
        judge_folding(book, number)
    hold_ranges(book, 40, CONJUNCT, conjuncts_fit)
    hold_ranges(book, 41, FLAGS, pictures_fit)


def judge(book):
    """Refuses the book by the first rule that it breaks."""
    judge_decompositions(book)
    judge_properties(book)
    judge_rest(book)

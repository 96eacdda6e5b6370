"""The places of a needle in a text."""

from seekmarks.borders import borders
from seekmarks.forms import mark


def mark_sizes(book, like, text):
    """How long the mark of the text is up to each place.

    Each scalar comes to as many in a mark as by itself, whatever stands beside it, and to one at
    least: putting marks in order only moves them.
    """
    sizes = [0]
    for scalar in text:
        sizes.append(sizes[-1] + len(mark(book, like, [scalar])))
    return sizes


def places(book, like, kind, sought, text):
    """The pairs of borders between which the text's mark is the sought one, in rising order.

    From one border on, at most one other lies as far off as the sought mark is long, and farther
    ones lie behind it. So no such pair lies within another, and all of them are places.
    """
    cuts = borders(book, kind, text)
    sizes = mark_sizes(book, like, text)
    ends = {}
    for cut in cuts:
        ends[sizes[cut]] = cut
    found = []
    for a in cuts:
        b = ends.get(sizes[a] + len(sought))
        if b is not None and mark(book, like, text[a:b]) == sought:
            found.append((a, b))
    return found


def first_from(found, start):
    """The first place that begins at start or later."""
    for place in found:
        if place[0] >= start:
            return place
    return None


def last_to(found, end):
    """The last place that ends at end or earlier."""
    for place in reversed(found):
        if place[1] <= end:
            return place
    return None


def without_overlap(found):
    """The first place, and then each time the first that begins where the last one ended or later."""
    kept = []
    end = 0
    for place in found:
        if place[0] >= end:
            kept.append(place)
            end = place[1]
    return kept

"""Texts taken apart, put in order and folded, and the marks by which texts are alike."""

from seekmarks.book import COMBINING, FOLD

DEEPEST = 8
LONGEST = 18


def taken_apart(book, scalar):
    """The scalar taken apart by canonical steps as far as it goes."""
    first = scalar
    behind = []
    step = book.canonical_step(first)
    while step:
        behind = list(step[1:]) + behind
        first = step[0]
        step = book.canonical_step(first)
    return [first] + behind


def all_taken_apart(book, text):
    parts = []
    for scalar in text:
        parts.extend(taken_apart(book, scalar))
    return parts


def one_step_apart(book, text):
    """Each scalar by its row in map 1, else by its canonical step, else itself."""
    parts = []
    for scalar in text:
        parts.extend(book.compatibility_step(scalar) or (scalar,))
    return parts


def apart_for_compatibility(book, scalar):
    """The scalar taken apart by K; none where that goes too deep or comes to too many.

    Going level by level keeps a book that is still being judged from going on for ever.
    """
    parts = [scalar]
    for depth in range(DEEPEST + 1):
        deeper = one_step_apart(book, parts)
        if deeper == parts:
            return parts
        if len(deeper) > LONGEST:
            return None
        parts = deeper
    return None


def all_apart_for_compatibility(book, text):
    # A mark may have some hundred thousand scalars, most of them the same few: each is asked for once.
    known = {}
    parts = []
    for scalar in text:
        if scalar not in known:
            known[scalar] = apart_for_compatibility(book, scalar)
        parts.extend(known[scalar])
    return parts


def marks_in_order(book, text):
    classes = {}
    ordered = []
    moving = []
    for scalar in text:
        if scalar not in classes:
            classes[scalar] = book.value_at(COMBINING, scalar)
        if classes[scalar] > 0:
            moving.append(scalar)
            continue
        if moving:
            ordered.extend(by_class(classes, moving))
            moving = []
        ordered.append(scalar)
    return ordered + by_class(classes, moving)


def by_class(classes, marks):
    return sorted(marks, key=lambda scalar: classes[scalar])


def form_d(book, text):
    return marks_in_order(book, all_taken_apart(book, text))


def form_kd(book, text):
    return marks_in_order(book, all_apart_for_compatibility(book, text))


def folded(book, text):
    parts = []
    for scalar in text:
        parts.extend(book.row_of(FOLD, scalar) or (scalar,))
    return parts


def mark(book, like, text):
    """What two texts have in common if they are alike."""
    if like == 0:
        return list(text)
    apart = form_d(book, text)
    if like == 1:
        return apart
    once = folded(book, apart)
    if like == 2:
        return form_d(book, once)
    return form_kd(book, folded(book, form_kd(book, once)))

"""What the document tells, written a second time and otherwise, to hold the program's answers against."""

import heapq
import itertools
import re


def normal(text, steps, classes):
    """Form D: steps is a dict of scalar to row, classes one of scalar to class; Hangul goes by rule."""
    apart = []

    def take(scalar):
        if 0xAC00 <= scalar <= 0xD7A3:
            place = scalar - 0xAC00
            apart.extend([0x1100 + place // 588, 0x1161 + place // 28 % 21])
            if place % 28:
                apart.append(0x11A7 + place % 28)
        elif scalar in steps:
            for part in steps[scalar]:
                take(part)
        else:
            apart.append(scalar)

    for scalar in text:
        take(scalar)
    moved = True
    while moved:
        moved = False
        for k in range(1, len(apart)):
            before, here = classes.get(apart[k - 1], 0), classes.get(apart[k], 0)
            if before > here > 0:
                apart[k - 1], apart[k] = apart[k], apart[k - 1]
                moved = True
    return apart


def places(borders, mark, sought):
    """All pairs of borders that are alike the needle and have no other such pair within."""
    alike = [(a, b) for a in borders for b in borders if a < b and mark(a, b) == sought]
    return [(a, b) for a, b in alike if not any((c, d) != (a, b) and a <= c and d <= b for c, d in alike)]


def edits(row, letters, gap, other, swap):
    """What a row of units is after one edit, and its cost."""
    for k in range(len(row) + 1):
        for letter in letters:
            yield row[:k] + (letter,) + row[k:], gap
    for k in range(len(row)):
        yield row[:k] + row[k + 1:], gap
        for letter in letters:
            if letter != row[k]:
                yield row[:k] + (letter,) + row[k + 1:], other
    if swap:
        for k in range(len(row) - 1):
            yield row[:k] + (row[k + 1], row[k]) + row[k + 2:], swap


def cheapest(start, letters, gap, other, swap, longest):
    """The least costs from one row to every row of at most so many units, by a search over rows of edits."""
    start = tuple(start)
    known = {}
    waiting = [(0, start)]
    while waiting:
        cost, here = heapq.heappop(waiting)
        if here in known:
            continue
        known[here] = cost
        for there, more in edits(here, letters, gap, other, swap):
            if len(there) <= longest and there not in known:
                heapq.heappush(waiting, (cost + more, there))
    return known


def nearest(borders, start, limit, cost):
    """Near by all pairs of borders: the least b, then the least cost, then the greatest a; or none."""
    found = []
    for a in borders:
        for b in borders:
            if start <= a <= b and cost(a, b) <= limit:
                found.append((b, cost(a, b), -a))
    if not found:
        return None
    b, least, a = min(found)
    return (-a, b, least)


def ways_through(s, t):
    """All rows of steps from the fronts that make one row of units another."""
    if not s and not t:
        yield ()
    if s and t:
        for rest in ways_through(s[1:], t[1:]):
            yield (0 if s[0] == t[0] else 1,) + rest
    if s:
        for rest in ways_through(s[1:], t):
            yield (2,) + rest
    if t:
        for rest in ways_through(s, t[1:]):
            yield (3,) + rest


def steps_cost(steps, gap, other):
    return sum((0, other, gap, gap)[step] for step in steps)


def aligned(s, t, gap, other):
    """Of all rows of steps one of the least cost, of these the first by its steps: 0 or 1, then 2, then 3."""
    return list(min(ways_through(s, t), key=lambda steps: (steps_cost(steps, gap, other), [max(step, 1) for step in steps])))


def rows_within(row):
    """All rows that units of this one make in its order, others left out."""
    return {tuple(part) for size in range(len(row) + 1) for part in itertools.combinations(row, size)}


def longest_common(s, t):
    return max(len(row) for row in rows_within(s) & rows_within(t))


def column_behind(old, alike, above):
    """A column of distances with all costs 1 behind another, from its first row on."""
    new = [old[0] + above]
    for row, same in enumerate(alike):
        new.append(min(old[row + 1] + 1, new[row] + 1, old[row] + (0 if same else 1)))
    return new


CLUSTER = re.compile(
    "rn|[rnc]"
    "|p*(?:L*(?:V+|WV*|X)T*|L+|T+|II|G(?:[eik]*[zj]G)*|C(?:[ikj]*k[ikj]*C)*|[^rnc])[eikzjs]*")


def clusters(letters):
    """Borders of clusters by a pattern of whole clusters.

    r CR, n LF, c control, e extend, i conjunct extend that is an extend, j one that is a ZWJ, k linker, z ZWJ, I RI,
    p prepend, s spacing mark, L V T W (LV) X (LVT) Hangul, G pictographic, C consonant, any other sign another.
    """
    found = [0]
    while found[-1] < len(letters):
        found.append(CLUSTER.match(letters, found[-1]).end())
    return found


def words(classes, pictures):
    """Borders of words: first what may not be parted by single scalars, then rows of heads with marks left out."""
    count = len(classes)
    found = [0]
    for p in range(1, count):
        a, b = classes[p - 1], classes[p]
        if (a, b) == (1, 2):
            continue
        if a in (1, 2, 3) or b in (1, 2, 3):
            found.append(p)
            continue
        if b in (4, 5, 6) or a == 5 and pictures[p] or a == b == 18:
            continue
        heads = [k for k in range(count) if k == 0 or classes[k] not in (4, 5, 6) or classes[k - 1] in (1, 2, 3)]
        before = "".join(WORD_LETTERS[classes[k]] for k in heads if k < p)
        behind = "".join(WORD_LETTERS[classes[k]] for k in range(p, count) if classes[k] not in (4, 5, 6))
        if not any(re.search(left + "$", before) and re.match(right, behind) for left, right in WORD_JOINS):
            found.append(p)
    return found + [count] if count else found


# One letter a class: CR to Newline and what is passed over speak in no rule of heads.
WORD_LETTERS = "o---xzfrkhaqdmlnNe_"
WORD_JOINS = (
    ("[ah]", "[ah]"), ("[ah]", "[lmq][ah]"), ("[ah][lmq]", "[ah]"), ("h", "q"), ("h", "dh"), ("hd", "h"),
    ("N", "N"), ("[ah]", "N"), ("N", "[ah]"), ("N[nmq]", "N"), ("N", "[nmq]N"), ("k", "k"),
    ("[ahNke]", "e"), ("e", "[ahNk]"), ("(^|[^r])(rr)*r", "r"))

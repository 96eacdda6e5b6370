"""Calls written out as numbers, and answers read back, for all tests."""

from seekmarks.finding import answers

EMPTY = ([], [], [], [])


def scalars(text):
    """A row of scalars: of a text its letters', of anything else just as it stands."""
    return [ord(letter) for letter in text] if isinstance(text, str) else list(text)


def row(numbers):
    return [len(numbers)] + list(numbers)


def spread(values):
    """A property's ranges from a dict of scalar (or (first, last)) to value; neighbours that are alike become one."""
    single = {}
    for key, value in values.items():
        first, last = key if isinstance(key, tuple) else (key, key)
        for scalar in range(first, last + 1):
            single[scalar] = value
    ranges = []
    for scalar in sorted(single):
        if ranges and ranges[-1][1] == scalar - 1 and ranges[-1][2] == single[scalar]:
            ranges[-1][1] = scalar
        else:
            ranges.append([scalar, scalar, single[scalar]])
    return ranges


def properties_row(properties):
    """A dict of property to a dict of scalar (or range) to value."""
    numbers = []
    for number in sorted(properties):
        for first, last, value in spread(properties[number]):
            numbers += [number, first, last, value]
    return numbers


def maps_row(maps):
    """A dict of map to a dict of scalar to row."""
    numbers = []
    for number in sorted(maps):
        for scalar in sorted(maps[number]):
            numbers += [number, scalar] + row(maps[number][scalar])
    return numbers


def sequences_row(sequences):
    """A dict of kind to a dict of key (a tuple) to what it comes to."""
    numbers = []
    for kind in sorted(sequences):
        for key in sorted(sequences[kind]):
            numbers += [kind] + row(key) + row(sequences[kind][key])
    return numbers


def names_row(names):
    return [ord(letter) for name in names for letter in name]


def written(properties=None, maps=None, sequences=None, names=()):
    """A book's four rows from dicts."""
    return (properties_row(properties or {}), maps_row(maps or {}), sequences_row(sequences or {}), names_row(names))


def flags(*bits):
    return sum(1 << bit for bit in bits)


def book(rows):
    return [1] + [number for each in rows for number in row(each)]


def find(p, t, like=0, kind=0, start=0, back=0):
    return [2, like, kind, start, back] + row(scalars(p)) + row(scalars(t))


def every(p, t, like=0, kind=0, overlap=1):
    return [3, like, kind, overlap] + row(scalars(p)) + row(scalars(t))


def distance(s, t, like=0, kind=0, gap=1, other=1, swap=0, limit=4294967295):
    return [4, like, kind, gap, other, swap, limit] + row(scalars(s)) + row(scalars(t))


def near(p, t, like=0, kind=0, gap=1, other=1, swap=0, start=0, limit=0):
    return [5, like, kind, gap, other, swap, start, limit] + row(scalars(p)) + row(scalars(t))


def align(s, t, like=0, kind=0, gap=1, other=1):
    return [6, like, kind, gap, other] + row(scalars(s)) + row(scalars(t))


def common(s, t, like=0, kind=0):
    return [7, like, kind] + row(scalars(s)) + row(scalars(t))


def diff(s, t, kind=0):
    return [8, kind] + row(scalars(s)) + row(scalars(t))


def patch(s, differences, undo=0):
    return [9, undo] + row(scalars(s)) + row(differences)


def column(plus, minus, alike, above):
    return [10, plus, minus, alike, above]


def parted(numbers):
    """The answers, a list each."""
    found = []
    at = 0
    while at < len(numbers):
        size = numbers[at]
        found.append(numbers[at + 1:at + 1 + size])
        at += 1 + size
    assert at == len(numbers), "an answer is cut off"
    return found


def ask(*calls):
    """The answers to these calls, made one behind another."""
    found = parted(answers([number for call in calls for number in call]))
    assert len(found) == len(calls), "as many answers as calls"
    return found


def ask_by(rows, *calls):
    """The answers to these calls by a book, which has to be taken."""
    found = ask(book(rows), *calls)
    assert found[0] == [0], found[0]
    return found[1:]


def judged(rows):
    return ask(book(rows))[0]


def counted(answer):
    """The row that align, diff or patch answers, behind how many numbers it has."""
    assert answer[0] == 0 and answer[1] == len(answer) - 2, answer
    return answer[2:]


def pairs(answer):
    """The places that all answers."""
    assert answer[0] == 0 and answer[1] == len(answer) - 2, answer
    return [(answer[k], answer[k + 1]) for k in range(2, len(answer), 2)]


def borders(rows, kind, text):
    """The text's borders: from each place on, a needle of nothing is near at the first of them."""
    text = scalars(text)
    found = ask_by(rows, *[near([], text, kind=kind, start=start) for start in range(len(text) + 1)])
    assert all(answer[0] == 1 and answer[1] == answer[2] and answer[3] == 0 for answer in found), found
    return sorted({answer[1] for answer in found})

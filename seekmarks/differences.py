"""What is between two texts: the changes, as a row of numbers too, done and undone."""

from seekmarks.distances import KEPT, TAKEN_OUT, Costs, alignment
from seekmarks.refusals import BrokenRule
from seekmarks.scalars import are_scalars


class Change:
    """Scalars taken out of a text from a place on, and those put in there."""

    def __init__(self, place, taken, put):
        self.place = place
        self.taken = taken
        self.put = put

    def end(self):
        return self.place + len(self.taken)

    def is_empty(self):
        return len(self.taken) == 0 and len(self.put) == 0


def changes_between(s, t):
    """The changes that make the units of s those of t; a unit here is its scalars."""
    change = Change(0, [], [])
    found = [change]
    i = 0
    j = 0
    for step in alignment(Costs(1, 3, 0), s, t):
        if step == KEPT:
            change = Change(change.end() + len(s[i]), [], [])
            found.append(change)
            i += 1
            j += 1
        elif step == TAKEN_OUT:
            change.taken.extend(s[i])
            i += 1
        else:
            # No unit is put in another's place: that costs more than taking out and putting in.
            change.put.extend(t[j])
            j += 1
    return [each for each in found if not each.is_empty()]


def as_row(s_size, t_size, changes):
    row = [s_size, t_size]
    for change in changes:
        row.extend([change.place, len(change.taken), len(change.put)])
        row.extend(change.taken)
        row.extend(change.put)
    return row


def read_change(changes, row, start):
    """The change that begins at start in the row, behind these."""
    number = len(changes)
    if len(row) - start < 3:
        raise BrokenRule(3, number)
    place, out, into = row[start:start + 3]
    moved = row[start + 3:start + 3 + out + into]
    if len(moved) < out + into:
        raise BrokenRule(3, number)
    if len(moved) == 0:
        raise BrokenRule(4, number)
    earliest = changes[-1].end() + 1 if changes else 0
    if place < earliest or place + out > row[0]:
        raise BrokenRule(5, number)
    if not are_scalars(moved):
        raise BrokenRule(6, number)
    return Change(place, moved[:out], moved[out:])


def read_changes(row):
    """The changes of a row of differences."""
    if len(row) < 2:
        raise BrokenRule(1, 0)
    changes = []
    start = 2
    while start < len(row):
        change = read_change(changes, row, start)
        changes.append(change)
        start += 3 + len(change.taken) + len(change.put)
    more = sum([len(change.put) - len(change.taken) for change in changes])
    if row[1] != row[0] + more:
        raise BrokenRule(7, 0)
    return changes


def other_way_round(changes):
    """The changes that undo these: their places are those in the text that these make."""
    turned = []
    more = 0
    for change in changes:
        turned.append(Change(change.place + more, change.put, change.taken))
        more += len(change.put) - len(change.taken)
    return turned


def changed(text, changes):
    """The text with these changes done."""
    made = []
    kept_from = 0
    for number, change in enumerate(changes):
        if text[change.place:change.end()] != change.taken:
            raise BrokenRule(9, number)
        made.extend(text[kept_from:change.place])
        made.extend(change.put)
        kept_from = change.end()
    made.extend(text[kept_from:])
    return made


def patched(text, row, undo):
    """What a row of differences makes of the text that it is for."""
    changes = read_changes(row)
    size = row[0]
    if undo == 1:
        changes = other_way_round(changes)
        size = row[1]
    if len(text) != size:
        raise BrokenRule(8, 0)
    return changed(text, changes)

"""The book: what is known of scalars."""

from seekmarks.scalars import has_scalar, is_scalar, is_syllable, syllable_step

PROPERTIES = 14
MAPS = 15

COMBINING = 0
CLUSTER = 2
CONJUNCT = 3
WORD = 4
LINE = 6
DIRECTION = 8
BRACKET = 9
SCRIPT = 10
DIGIT = 11
FLAGS = 13

DECOMPOSITION = 0
COMPATIBILITY = 1
FOLD = 5
SIMPLE_FOLD = 6
MIRROR = 7
PARTNER = 8
PROTOTYPE = 9
EXTENSIONS = 10
WEIGHTS = 11

PICTOGRAPHIC = 12


def first_reaching(ranges, number):
    """The place of the first range whose last is not below the number."""
    low = 0
    high = len(ranges)
    while low < high:
        middle = (low + high) // 2
        if ranges[middle][1] < number:
            low = middle + 1
        else:
            high = middle
    return low


class Book:
    """Records in the order in which they were handed over, so that a record's number is its place."""

    def __init__(self, properties, maps, sequences, names):
        self.properties = properties
        self.maps = maps
        self.sequences = sequences
        self.names = names
        self.ranges = [[] for number in range(PROPERTIES)]
        self.rows = [{} for number in range(MAPS)]
        for number, first, last, value in properties:
            self.ranges[number].append((first, last, value))
        for number, scalar, row in maps:
            self.rows[number][scalar] = row

    def value_at(self, number, scalar):
        """The property's value; 0 of what is no scalar, even where a range passes over it."""
        ranges = self.ranges[number]
        place = first_reaching(ranges, scalar)
        if place == len(ranges) or scalar < ranges[place][0] or not is_scalar(scalar):
            return 0
        return ranges[place][2]

    def values_over(self, number, first, last):
        """The values that the property has at the scalars from first to last, each once."""
        ranges = self.ranges[number]
        found = {}
        start = first
        place = first_reaching(ranges, first)
        while place < len(ranges) and ranges[place][0] <= last:
            if has_scalar(start, ranges[place][0] - 1):
                found[0] = True
            found[ranges[place][2]] = True
            start = ranges[place][1] + 1
            place += 1
        if has_scalar(start, last):
            found[0] = True
        return sorted(found)

    def has_flag(self, scalar, bit):
        return self.value_at(FLAGS, scalar) >> bit & 1 == 1

    def has_row(self, number, scalar):
        return scalar in self.rows[number]

    def row_of(self, number, scalar):
        """The map's row; empty where there is none."""
        return self.rows[number].get(scalar, ())

    def canonical_step(self, scalar):
        """What the scalar is taken apart into in one step; empty where it has no such step."""
        if is_syllable(scalar):
            return syllable_step(scalar)
        return self.row_of(DECOMPOSITION, scalar)

    def compatibility_step(self, scalar):
        return self.row_of(COMPATIBILITY, scalar) or self.canonical_step(scalar)

"""A book's four rows of numbers taken for records, by the rules that speak of single records (4 to 17)."""

from seekmarks.book import BRACKET, COMBINING, CONJUNCT, EXTENSIONS, FLAGS, PICTOGRAPHIC, WEIGHTS, Book
from seekmarks.refusals import BrokenRule
from seekmarks.scalars import FIRST_BETWEEN, LAST_BETWEEN, are_scalars, is_scalar

MOST_VALUES = (254, 28, 13, 3, 18, 14, 47, 5, 22, 2, 255, 10, 8191, 1048575)
MOST_OF_ROWS = (2, 18, 3, 3, 3, 3, 1, 1, 1, 18, 32, 18, 1, 1, 1)
LEAST_OF_KEYS = (2, 1, 2)
MOST_OF_KEYS = (18, 32, 32)
MOST_OF_RESULTS = (18, 1, 1)
FIRST_NAMES = ("Zzzz", "Zyyy", "Zinh")
MOST_NAMES = 64
MOST_WALKED = 4096
SCRIPTS = 256
RESULTS = 65536


def record_before(records, number):
    """The last record, where it is of the same property, map or kind; else none."""
    if records and records[-1][0] == number:
        return records[-1]
    return None


def check_number(records, number, most):
    if number > most or records and number < records[-1][0]:
        raise BrokenRule(4, len(records))


def rise(numbers):
    return all([numbers[k] < numbers[k + 1] for k in range(len(numbers) - 1)])


def touch(last, first):
    return first == last + 1 or last == FIRST_BETWEEN - 1 and first == LAST_BETWEEN + 1


def read_range(records, numbers):
    place = len(records)
    if len(numbers) < 4:
        raise BrokenRule(6, place)
    number, first, last, value = numbers
    check_number(records, number, len(MOST_VALUES) - 1)
    before = record_before(records, number)
    if not are_scalars((first, last)) or last < first or before is not None and first <= before[2]:
        raise BrokenRule(7, place)
    if not 1 <= value <= MOST_VALUES[number]:
        raise BrokenRule(8, place)
    if before is not None and touch(before[2], first) and before[3] == value:
        raise BrokenRule(9, place)
    return (number, first, last, value)


def read_properties(numbers):
    records = []
    for start in range(0, len(numbers), 4):
        records.append(read_range(records, numbers[start:start + 4]))
    return records


def row_fits(number, row):
    if number == WEIGHTS:
        return True
    if number == EXTENSIONS:
        return rise(row) and row[-1] < SCRIPTS
    return are_scalars(row)


def read_map(records, numbers, start):
    place = len(records)
    if len(numbers) - start < 3:
        raise BrokenRule(6, place)
    number, scalar, size = numbers[start:start + 3]
    check_number(records, number, len(MOST_OF_ROWS) - 1)
    before = record_before(records, number)
    if not is_scalar(scalar) or before is not None and scalar <= before[1]:
        raise BrokenRule(10, place)
    if not 1 <= size <= MOST_OF_ROWS[number]:
        raise BrokenRule(11, place)
    row = tuple(numbers[start + 3:start + 3 + size])
    if len(row) < size:
        raise BrokenRule(6, place)
    if not row_fits(number, row):
        raise BrokenRule(12, place)
    if row == (scalar,) and number not in (EXTENSIONS, WEIGHTS):
        raise BrokenRule(13, place)
    return (number, scalar, row)


def read_maps(numbers):
    records = []
    start = 0
    while start < len(numbers):
        record = read_map(records, numbers, start)
        records.append(record)
        start += 3 + len(record[2])
    return records


def read_key(records, numbers, start):
    """A sequence's kind and key, behind which at least one number stands."""
    place = len(records)
    if len(numbers) - start < 2:
        raise BrokenRule(6, place)
    kind, size = numbers[start:start + 2]
    check_number(records, kind, len(MOST_OF_KEYS) - 1)
    if not LEAST_OF_KEYS[kind] <= size <= MOST_OF_KEYS[kind]:
        raise BrokenRule(14, place)
    if len(numbers) - start < 2 + size + 1:
        raise BrokenRule(6, place)
    key = tuple(numbers[start + 2:start + 2 + size])
    before = record_before(records, kind)
    if not are_scalars(key) or before is not None and key <= before[1]:
        raise BrokenRule(14, place)
    return (kind, key)


def read_result(place, kind, numbers, start):
    size = numbers[start]
    if not 1 <= size <= MOST_OF_RESULTS[kind]:
        raise BrokenRule(15, place)
    result = tuple(numbers[start + 1:start + 1 + size])
    if len(result) < size:
        raise BrokenRule(6, place)
    if kind > 0 and result[0] >= RESULTS:
        raise BrokenRule(15, place)
    return result


def read_sequences(numbers):
    records = []
    start = 0
    while start < len(numbers):
        kind, key = read_key(records, numbers, start)
        start += 2 + len(key)
        result = read_result(len(records), kind, numbers, start)
        start += 1 + len(result)
        records.append((kind, key, result))
    return records


def is_name(numbers):
    """Whether these are a capital and three small letters."""
    if len(numbers) < 4 or not ord("A") <= numbers[0] <= ord("Z"):
        return False
    return all([ord("a") <= number <= ord("z") for number in numbers[1:]])


def name_fits(names, name):
    place = len(names)
    if not is_name(name) or name in names or place >= MOST_NAMES:
        return False
    return place >= len(FIRST_NAMES) or name == [ord(letter) for letter in FIRST_NAMES[place]]


def read_names(numbers):
    names = []
    for start in range(0, len(numbers), 4):
        name = numbers[start:start + 4]
        if not name_fits(names, name):
            raise BrokenRule(16, len(names))
        names.append(name)
    if 0 < len(names) < len(FIRST_NAMES):
        raise BrokenRule(16, len(names))
    return names


def is_walked(number, value):
    """Whether rule 17 counts such a range."""
    return number in (COMBINING, CONJUNCT, BRACKET) or number == FLAGS and value >> PICTOGRAPHIC & 1 == 1


def check_walked(properties):
    walked = sum([last - first + 1 for number, first, last, value in properties if is_walked(number, value)])
    if walked > MOST_WALKED:
        raise BrokenRule(17, 0)


def read_book(properties, maps, sequences, names):
    """The book of these four rows, not yet judged by the rules from 20 on."""
    ranges = read_properties(properties)
    rows = read_maps(maps)
    keys = read_sequences(sequences)
    named = read_names(names)
    check_walked(ranges)
    return Book(ranges, rows, keys, named)

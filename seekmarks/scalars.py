"""Which numbers are scalars, and what of Hangul goes by rule."""

LAST_SCALAR = 0x10FFFF
FIRST_BETWEEN = 0xD800
LAST_BETWEEN = 0xDFFF
FIRST_SYLLABLE = 0xAC00
LAST_SYLLABLE = 0xD7A3
FIRST_BEGINNING = 0x1100
LAST_BEGINNING = 0x1112
FIRST_MIDDLE = 0x1161
LAST_MIDDLE = 0x1175
NO_END = 0x11A7
LAST_END = 0x11C2
ENDS = 28
MIDDLES_AND_ENDS = 588


def is_scalar(number):
    return 0 <= number <= LAST_SCALAR and not FIRST_BETWEEN <= number <= LAST_BETWEEN


def are_scalars(numbers):
    return all([is_scalar(number) for number in numbers])


def has_scalar(first, last):
    """Whether one of the numbers from first to last is a scalar."""
    return first <= last and not (FIRST_BETWEEN <= first and last <= LAST_BETWEEN)


def is_syllable(scalar):
    return FIRST_SYLLABLE <= scalar <= LAST_SYLLABLE


def is_beginning(scalar):
    return FIRST_BEGINNING <= scalar <= LAST_BEGINNING


def is_middle(scalar):
    return FIRST_MIDDLE <= scalar <= LAST_MIDDLE


def is_end(scalar):
    return NO_END < scalar <= LAST_END


def is_open_syllable(scalar):
    """Whether it is a syllable without an end."""
    return is_syllable(scalar) and (scalar - FIRST_SYLLABLE) % ENDS == 0


def is_hangul(scalar):
    """Whether it is a syllable or a conjoining jamo."""
    return is_syllable(scalar) or is_beginning(scalar) or is_middle(scalar) or is_end(scalar)


def range_has_hangul(first, last):
    blocks = (
        (FIRST_BEGINNING, LAST_BEGINNING),
        (FIRST_MIDDLE, LAST_MIDDLE),
        (NO_END + 1, LAST_END),
        (FIRST_SYLLABLE, LAST_SYLLABLE),
    )
    return any([first <= block[1] and block[0] <= last for block in blocks])


def syllable_step(syllable):
    """What a syllable is taken apart into in one step."""
    place = syllable - FIRST_SYLLABLE
    end = place % ENDS
    if end > 0:
        return (syllable - end, NO_END + end)
    return (FIRST_BEGINNING + place // MIDDLES_AND_ENDS, FIRST_MIDDLE + place % MIDDLES_AND_ENDS // ENDS)


def make_syllable(first, second):
    """Whether these two are what a syllable is taken apart into in one step."""
    if is_beginning(first):
        return is_middle(second)
    return is_open_syllable(first) and is_end(second)

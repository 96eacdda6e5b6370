"""A table of distances with all costs 1, from one column to the next."""

ROWS = 64


def bit_at(bits, place):
    return bits >> place & 1


def column_fits(plus, minus, above):
    return -1 <= above <= 1 and plus & minus == 0


def next_column(plus, minus, alike, above):
    """The new column's plus and minus, and how much it is above the old one in the last row."""
    new_plus = 0
    new_minus = 0
    across = above
    for place in range(ROWS):
        down = bit_at(plus, place) - bit_at(minus, place)
        least = min(1 + down, 1 + across, 1 - bit_at(alike, place))
        if least > across:
            new_plus += 1 << place
        if least < across:
            new_minus += 1 << place
        across = least - down
    return (new_plus, new_minus, across)

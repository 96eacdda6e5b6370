"""The least costs of making one row of units another, and the steps that make it so."""

MOST_COST = 65535

KEPT = 0
PUT_IN_PLACE = 1
TAKEN_OUT = 2
PUT_IN = 3


class Costs:
    """What edits cost; a swap of 0: there is none."""

    def __init__(self, gap, other, swap):
        self.gap = gap
        self.other = other
        self.swap = swap


def costs_fit(costs):
    if not 1 <= costs.gap <= MOST_COST or not 1 <= costs.other <= MOST_COST:
        return False
    return costs.swap == 0 or costs.gap <= costs.swap <= MOST_COST


def numbered(s, t):
    """Both rows with a number for each unit, the same for those that are alike; units themselves may be long."""
    numbers = {}
    s_numbers = [numbers.setdefault(unit, len(numbers)) for unit in s]
    t_numbers = [numbers.setdefault(unit, len(numbers)) for unit in t]
    return (s_numbers, t_numbers)


class Table:
    """Least costs from the backs to the fronts: ways[i][j] makes s from i on what t is from j on."""

    def __init__(self, costs, s_units, t_units):
        s, t = numbered(s_units, t_units)
        self.costs = costs
        self.s = s
        self.t = t
        self.ways = [[] for i in range(len(s))]
        self.ways.append([costs.gap * (len(t) - j) for j in range(len(t) + 1)])
        next_in_s = {}
        for i in range(len(s) - 1, -1, -1):
            self.ways[i] = self.row_at(i, next_in_s)
            next_in_s[s[i]] = i

    def row_at(self, i, next_in_s):
        """Row i; next_in_s tells where each unit next stands in s behind i."""
        row = [0] * len(self.t) + [self.costs.gap * (len(self.s) - i)]
        next_in_t = {}
        for j in range(len(self.t) - 1, -1, -1):
            least = self.least_of_one(i, j, row[j + 1])
            row[j] = min(least, self.least_by_swap(i, j, next_in_s, next_in_t, least))
            next_in_t[self.t[j]] = j
        return row

    def least_of_one(self, i, j, without_front_of_t):
        below = self.ways[i + 1]
        kept = 0 if self.s[i] == self.t[j] else self.costs.other
        return min(below[j + 1] + kept, below[j] + self.costs.gap, without_front_of_t + self.costs.gap)

    def least_by_swap(self, i, j, next_in_s, next_in_t, least):
        """The cost with the two fronts swapped, or least where that can't be.

        The nearest partners are enough: one farther off costs a gap for each unit between, which
        is never less than what the rest could gain by having those units gone.
        """
        k = next_in_s.get(self.t[j])
        m = next_in_t.get(self.s[i])
        if self.costs.swap == 0 or k is None or m is None:
            return least
        return self.costs.gap * (k - i - 1 + m - j - 1) + self.costs.swap + self.ways[k + 1][m + 1]


def distance(costs, s, t):
    return Table(costs, s, t).ways[0][0]


def longest_common(s, t):
    """How many units the longest common row has.

    By other as two gaps, nothing gains by putting a unit in another's place: the least cost takes
    out and puts in just what is not common.
    """
    return (len(s) + len(t) - distance(Costs(1, 2, 0), s, t)) // 2


def step_at(table, i, j):
    """The first step with which the least cost from i and j on can still be met."""
    least = table.ways[i][j]
    gap = table.costs.gap
    if i < len(table.s) and j < len(table.t):
        if table.s[i] == table.t[j]:
            # What is alike at the fronts can always be kept: no other step leads to less.
            return KEPT
        if least == table.ways[i + 1][j + 1] + table.costs.other:
            return PUT_IN_PLACE
    if i < len(table.s) and least == table.ways[i + 1][j] + gap:
        return TAKEN_OUT
    return PUT_IN


def alignment(costs, s, t):
    """The steps from the fronts that make s what t is, at the least cost; there is no swap."""
    table = Table(costs, s, t)
    steps = []
    i = 0
    j = 0
    while i < len(s) or j < len(t):
        step = step_at(table, i, j)
        steps.append(step)
        if step != PUT_IN:
            i += 1
        if step != TAKEN_OUT:
            j += 1
    return steps


def nearest_beginning(ways, limit):
    """The place of the least cost within the limit, of several the last; none where all are above it."""
    best = None
    for place in range(len(ways)):
        if ways[place] <= limit and (best is None or ways[place] <= ways[best]):
            best = place
    return best


def near(costs, limit, needle, row):
    """Which units of the row, from the first end on, are near the needle: beginning, end, distance; or none."""
    for end in range(len(row) + 1):
        ways = Table(costs, needle, row[:end]).ways[0]
        beginning = nearest_beginning(ways, limit)
        if beginning is not None:
            return (beginning, end, ways[beginning])
    return None

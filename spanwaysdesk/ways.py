"""The thirteen ways in which one span may lie to another, and sets of them, told by bits."""

LAST_WAY = 12
ALL_WAYS = 8191

# Where a span's beginning and its end fall, seen from the other span, tells the way.
WAY_BY_PLACES = {
    (0, 0): 0,
    (0, 1): 1,
    (0, 2): 2,
    (1, 2): 3,
    (2, 2): 4,
    (2, 3): 5,
    (1, 3): 6,
    (0, 3): 7,
    (0, 4): 8,
    (1, 4): 9,
    (2, 4): 10,
    (3, 4): 11,
    (4, 4): 12,
}


# 0 ahead of the span, 1 on its beginning, 2 within it, 3 on its end, 4 behind it.
def place_of(number, span):
    if number < span[0]:
        return 0
    if number == span[0]:
        return 1
    if number < span[1]:
        return 2
    if number == span[1]:
        return 3
    return 4


def way_between(one, other):
    return WAY_BY_PLACES[(place_of(one[0], other), place_of(one[1], other))]


def ways_in(ways):
    return [way for way in range(LAST_WAY + 1) if (ways >> way) & 1]


def turned_ways(ways):
    turned = 0
    for way in ways_in(ways):
        turned = turned | (1 << (LAST_WAY - way))
    return turned


# In the order of their beginnings, then of their ends: the picture's order rests on it.
def spans_within(last):
    spans = []
    for begin in range(last):
        for end in range(begin + 1, last + 1):
            spans.append((begin, end))
    return spans


def ways_among(spans):
    rows = []
    for one in spans:
        rows.append([way_between(one, other) for other in spans])
    return rows


# At [k][m] the set of the ways of x to z, where x lies to y in way k and y to z in way m.
# Three spans have six ends, so the numbers 0 to 5 show all that three spans can do.
def ways_one_behind_another():
    rows = ways_among(spans_within(5))
    table = [[0] * (LAST_WAY + 1) for way in range(LAST_WAY + 1)]
    for x_row in rows:
        for y in range(len(rows)):
            follow = table[x_row[y]]
            y_row = rows[y]
            for z in range(len(rows)):
                follow[y_row[z]] = follow[y_row[z]] | (1 << x_row[z])
    return table


def ways_through(first, second, following):
    found = 0
    for one in ways_in(first):
        for other in ways_in(second):
            found = found | following[one][other]
    return found

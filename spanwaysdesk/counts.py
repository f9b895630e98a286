"""How many lists of spans there are, no two of them alike, and what ways are found in them.

The ways between each two spans settle which of any two ends comes first, so lists are alike
just if all their ways are the same: choices of ways are counted in place of lists. A choice
can be had by spans if it can be had by each three of them, for that ends stand in an order
is a matter of three ends at a time.
"""

from spanwaysdesk.ways import LAST_WAY, ways_in


def how_many_lists(count, sets, following):
    total = 0
    for way in ways_in(sets[(0, 1)]):
        total += how_many_with(way, count, sets, following)
    return total


# A set may hold ways that no list has: the other spans can rule them out.
def ways_in_lists(count, sets, following):
    found = 0
    for way in ways_in(sets[(0, 1)]):
        if how_many_with(way, count, sets, following) > 0:
            found = found | (1 << way)
    return found


# Only lists in which span 0 lies to span 1 in the given way are counted.
def how_many_with(way, count, sets, following):
    if count == 2:
        return 1
    thirds = ways_to_one_more(way, 2, sets, following)
    if count == 3:
        return len(thirds)
    fourths = ways_to_one_more(way, 3, sets, following)
    return how_many_between(thirds, fourths, sets[(2, 3)], following)


# How spans 0 and 1, of which 0 lies to 1 in the given way, may lie to another span.
def ways_to_one_more(way, other, sets, following):
    pairs = []
    for one_way in ways_in(sets[(1, other)]):
        for zero_way in ways_in(following[way][one_way] & sets[(0, other)]):
            pairs.append((zero_way, one_way))
    return pairs


# The same few sets come up thousands of times, so the ways in each are counted just once.
def how_many_between(thirds, fourths, ways, following):
    times = {}
    for zero_to_two, one_to_two in thirds:
        by_zero = following[LAST_WAY - zero_to_two]
        by_one = following[LAST_WAY - one_to_two]
        for zero_to_three, one_to_three in fourths:
            left = by_zero[zero_to_three] & by_one[one_to_three]
            times[left] = times.get(left, 0) + 1
    total = 0
    for left in times:
        total += times[left] * len(ways_in(left & ways))
    return total

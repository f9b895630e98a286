"""A few spans, of each two of which a set tells how they may lie."""

from spanwaysdesk.counts import how_many_lists, ways_in_lists
from spanwaysdesk.pictures import first_list
from spanwaysdesk.ways import ALL_WAYS, turned_ways, way_between, ways_one_behind_another, ways_through

REFUSED = -22
NO_LIST = -6


def in_order(i, j):
    return (min(i, j), max(i, j))


# Each method named like a call gives back the list of the numbers that the call answers.
class Spans:
    def __init__(self):
        self.count = 0
        self.sets = {}
        self.following = ways_one_behind_another()

    def begin(self, count):
        if count < 2 or count > 4:
            return [REFUSED]
        self.count = count
        self.sets = {}
        for j in range(count):
            for i in range(j):
                self.sets[(i, j)] = ALL_WAYS
        return [0]

    def are_two(self, i, j):
        return i < self.count and j < self.count and i != j

    def tell(self, i, j, ways):
        if not self.are_two(i, j) or ways > ALL_WAYS:
            return [REFUSED]
        pair = in_order(i, j)
        if i > j:
            ways = turned_ways(ways)
        self.sets[pair] = self.sets[pair] & ways
        return [self.sets[pair]]

    def free(self, i, j):
        if not self.are_two(i, j):
            return [REFUSED]
        self.sets[in_order(i, j)] = ALL_WAYS
        return [0]

    def many(self):
        return [how_many_lists(self.count, self.sets, self.following)]

    # Counted first, since a count tells sooner that there is no list than a search through all.
    def picture(self):
        if self.many() == [0]:
            return [NO_LIST]
        numbers = [self.count]
        for begin, end in first_list(self.count, self.sets):
            numbers.append(begin)
            numbers.append(end)
        return numbers

    def how_may_lie(self, i, j):
        if i < j:
            return self.sets[(i, j)]
        return turned_ways(self.sets[(j, i)])

    # The sets of the spans as they'd be if these were numbered anew, in the given order.
    def sets_in_order(self, order):
        sets = {}
        for j in range(len(order)):
            for i in range(j):
                sets[(i, j)] = self.how_may_lie(order[i], order[j])
        return sets

    # Spans i and j are put first, since the lists are counted by how the first lies to the second.
    def may(self, i, j):
        if not self.are_two(i, j):
            return [REFUSED]
        order = [i, j] + [other for other in range(self.count) if other not in (i, j)]
        return [ways_in_lists(self.count, self.sets_in_order(order), self.following)]

    def through(self, first, second):
        if first > ALL_WAYS or second > ALL_WAYS:
            return [REFUSED]
        return [ways_through(first, second, self.following)]

    def turned(self, ways):
        if ways > ALL_WAYS:
            return [REFUSED]
        return [turned_ways(ways)]

    def lies(self, one, other):
        if one[1] <= one[0] or other[1] <= other[0]:
            return [REFUSED]
        return [way_between(one, other)]

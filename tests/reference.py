"""What the document says, done again in the slowest and plainest way, for the tests to compare with."""

import functools
import itertools

from spanwaysdesk.desk import answers

BEGIN, TELL, FREE, MANY, PICTURE, MAY, THROUGH, TURNED, LIES = range(9)
ALL_WAYS = 8191
GREATEST = 4294967295
# The ends of the range that lies is asked in.
LEAST_END, GREATEST_END = -2147483648, 2147483647

# The document's words for the ways 0 to 6, of a span a-b to a span c-d.
WORDS = (
    lambda a, b, c, d: b < c,
    lambda a, b, c, d: b == c,
    lambda a, b, c, d: a < c < b < d,
    lambda a, b, c, d: a == c and b < d,
    lambda a, b, c, d: a > c and b < d,
    lambda a, b, c, d: a > c and b == d,
    lambda a, b, c, d: a == c and b == d,
)


@functools.lru_cache(maxsize=None)
def way(one, other):
    found = [k for k in range(7) if WORDS[k](*one, *other)]
    found += [12 - k for k in range(6) if WORDS[k](*other, *one)]
    assert len(found) == 1, (one, other, found)
    return found[0]


def bits(*ways):
    return sum(1 << k for k in set(ways))


def ways_of(number):
    return {k for k in range(13) if number >> k & 1}


def pairs(n):
    return list(itertools.combinations(range(n), 2))


@functools.lru_cache(maxsize=None)
def plain_lists(n):
    """Every list of n spans with numbers from 0 up and none left out, the first of them first, with its ways."""
    spans = list(itertools.combinations(range(2 * n), 2))
    found = []
    for chosen in itertools.product(spans, repeat=n):
        numbers = {number for span in chosen for number in span}
        if max(numbers) + 1 == len(numbers):
            found.append((chosen, [way(chosen[i], chosen[j]) for i, j in pairs(n)]))
    return found


def lists_that_fit(n, sets):
    return fitting(n, tuple(frozenset(sets[pair]) for pair in pairs(n)))


@functools.lru_cache(maxsize=16)
def fitting(n, told):
    return [chosen for chosen, ways in plain_lists(n) if all(w in s for w, s in zip(ways, told))]


@functools.lru_cache(maxsize=None)
def followed(one, other):
    """The ways of x to z in all lists of three spans in which x lies to y in way one, and y to z in way other."""
    return {way(x, z) for (x, y, z), ways in plain_lists(3) if way(x, y) == one and way(y, z) == other}


def through(first, second):
    return bits(*[k for one in ways_of(first) for other in ways_of(second) for k in followed(one, other)])


def turned(number):
    return bits(*[way(y, x) for (x, y), ways in plain_lists(2) if number >> way(x, y) & 1])


def said_of(spans):
    """How each two spans of a list lie, the lesser first: tells that allow nothing else."""
    calls = []
    for i, j in pairs(len(spans)):
        calls.append((TELL, i, j, bits(way(spans[i], spans[j]))))
    return calls


class Model:
    def __init__(self):
        self.n = 0
        self.sets = {}

    def begin(self, n):
        if n not in (2, 3, 4):
            return [-22]
        self.n = n
        self.sets = {pair: set(range(13)) for pair in pairs(n)}
        return [0]

    def wrong(self, i, j):
        return i >= self.n or j >= self.n or i == j

    def tell(self, i, j, number):
        if self.wrong(i, j) or number >= 8192:
            return [-22]
        told = ways_of(number) if i < j else {12 - k for k in ways_of(number)}
        pair = tuple(sorted((i, j)))
        self.sets[pair] = self.sets[pair] & told
        return [bits(*self.sets[pair])]

    def free(self, i, j):
        if self.wrong(i, j):
            return [-22]
        self.sets[tuple(sorted((i, j)))] = set(range(13))
        return [0]

    def many(self):
        return [len(lists_that_fit(self.n, self.sets))]

    def picture(self):
        fitting = lists_that_fit(self.n, self.sets)
        if not fitting:
            return [-6]
        return [self.n] + [number for span in fitting[0] for number in span]

    def may(self, i, j):
        if self.wrong(i, j):
            return [-22]
        return [bits(*{way(chosen[i], chosen[j]) for chosen in lists_that_fit(self.n, self.sets)})]

    def through(self, first, second):
        return [-22] if first >= 8192 or second >= 8192 else [through(first, second)]

    def turned(self, number):
        return [-22] if number >= 8192 else [turned(number)]

    def lies(self, a, b, c, d):
        return [way((a, b), (c, d))] if a < b and c < d else [-22]

    def answer(self, call):
        asked = (
            self.begin, self.tell, self.free, self.many, self.picture,
            self.may, self.through, self.turned, self.lies,
        )
        return asked[call[0]](*call[1:])


def flat(calls):
    return [number for call in calls for number in call]


def parts(numbers):
    """The answers, each by itself, of a list that has ahead of each how many numbers it has."""
    found = []
    at = 0
    while at < len(numbers):
        behind = at + 1 + numbers[at]
        assert numbers[at] > 0 and behind <= len(numbers), numbers
        found.append(numbers[at + 1:behind])
        at = behind
    return found


def ask(*calls):
    return parts(answers(flat(calls)))


def last(*calls):
    return ask(*calls)[-1]


def expected(calls):
    model = Model()
    return [model.answer(call) for call in calls]

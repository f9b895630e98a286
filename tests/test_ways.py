import itertools
import unittest

from reference import bits, way
from spanwaysdesk.ways import spans_within, turned_ways, way_between, ways_in, ways_one_behind_another


class Ways(unittest.TestCase):
    def test_each_two_spans_lie_as_the_words_say(self):
        spans = list(itertools.combinations(range(-3, 4), 2))
        for one, other in itertools.product(spans, repeat=2):
            self.assertEqual(way_between(one, other), way(one, other))

    def test_spans_stand_in_order(self):
        for last in (1, 3, 5, 7):
            self.assertEqual(spans_within(last), list(itertools.combinations(range(last + 1), 2)))

    def test_ways_in_a_set(self):
        self.assertEqual(ways_in(0), [])
        self.assertEqual(ways_in(4101), [0, 2, 12])
        self.assertEqual(ways_in(8191), list(range(13)))

    def test_turned_twice_is_as_before(self):
        for ways in range(8192):
            self.assertEqual(turned_ways(turned_ways(ways)), ways)
            self.assertEqual(turned_ways(ways), bits(*[12 - k for k in ways_in(ways)]))

    def test_one_behind_another(self):
        follow = [[set() for z in range(13)] for y in range(13)]
        spans = list(itertools.combinations(range(7), 2))
        for x, y, z in itertools.product(spans, repeat=3):
            follow[way(x, y)][way(y, z)].add(way(x, z))
        table = [[bits(*ways) for ways in row] for row in follow]
        self.assertEqual(ways_one_behind_another(), table)


if __name__ == "__main__":
    unittest.main()

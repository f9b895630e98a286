import random
import unittest

from reference import ALL_WAYS, BEGIN, FREE, GREATEST, MANY, PICTURE, TELL, THROUGH, TURNED
from reference import ask, bits, last, plain_lists, through, turned, way

REFUSED = (
    (8192, 0), (0, 8192), (8192, 8192), (8192, 8191), (8191, 8192), (8193, 1), (1, 8193), (16384, 2),
    (GREATEST, 0), (0, GREATEST), (GREATEST, 8191), (8191, GREATEST), (GREATEST, GREATEST),
)


def answered_to(*given):
    return ask((BEGIN, 2), *[(THROUGH, first, second) for first, second in given])[1:]


class Through(unittest.TestCase):
    def test_some_that_can_be_seen_at_once(self):
        # What ends before y begins, which ends before z begins, ends before z begins.
        self.assertEqual(answered_to((1, 1), (4096, 4096)), [[1], [4096]])
        self.assertEqual(answered_to((1, 4096), (4096, 1)), [[ALL_WAYS], [ALL_WAYS]])
        # What is the same as y lies to z as y does, and to y as to z where these are the same.
        for k in range(13):
            self.assertEqual(answered_to((64, 1 << k), (1 << k, 64)), [[1 << k], [1 << k]])
        # x lies within y, and y ends before z begins.
        self.assertEqual(answered_to((bits(4), 1), (bits(8), bits(4))), [[1], [bits(*range(2, 11))]])

    def test_each_two_ways_against_all_lists_of_three_spans(self):
        walked = {}
        for (x, y, z), ways in plain_lists(3):
            walked.setdefault((way(x, y), way(y, z)), set()).add(way(x, z))
        self.assertEqual(len(walked), 169)
        for one in range(13):
            answered = answered_to(*[(1 << one, 1 << other) for other in range(13)])
            self.assertEqual(answered, [[bits(*walked[(one, other)])] for other in range(13)])

    def test_sets_of_several_ways(self):
        draw = random.Random(14)
        given = []
        for number in range(299):
            first = bits(*draw.sample(range(13), draw.randrange(1, 5)))
            given.append((first, bits(*draw.sample(range(13), draw.randrange(1, 5)))))
        self.assertEqual(answered_to(*given), [[through(first, second)] for first, second in given])

    def test_a_set_of_several_ways_is_each_of_them_by_itself(self):
        singles = answered_to((bits(0), bits(2)), (bits(0), bits(5)), (bits(7), bits(2)), (bits(7), bits(5)))
        joined = 0
        for answer, in singles:
            joined = joined | answer
        self.assertEqual(answered_to((bits(0, 7), bits(2, 5))), [[joined]])
        self.assertEqual([[joined]], [[through(bits(0, 7), bits(2, 5))]])

    def test_no_way_in_either_place(self):
        for ways in (0, 1, 64, 4096, 5461, ALL_WAYS):
            self.assertEqual(answered_to((0, ways), (ways, 0)), [[0], [0]])

    def test_all_ways(self):
        self.assertEqual(answered_to((8191, 8191), (8191, 64), (64, 8191)), [[8191], [8191], [8191]])
        self.assertEqual(answered_to((8191, 1), (1, 8191)), [[through(8191, 1)], [through(1, 8191)]])
        self.assertEqual(answered_to((8190, 8190), (8190, 64)), [[through(8190, 8190)], [8190]])

    def test_turned_about_it_is_the_other_way_round(self):
        draw = random.Random(15)
        for number in range(100):
            first, second = draw.randrange(8192), draw.randrange(8192)
            there, back = answered_to((first, second), (turned(second), turned(first)))
            self.assertEqual(ask((BEGIN, 2), (TURNED, *there))[1], back)

    def test_refusals(self):
        for first, second in REFUSED:
            self.assertEqual(answered_to((first, second)), [[-22]], (first, second))

    def test_it_does_not_rest_on_what_was_told(self):
        given = [(1, 1), (3, 4096), (8191, 8191), (64, 80), (0, 5), (8192, 1)]
        calls = [(THROUGH, first, second) for first, second in given]
        for before in ([(BEGIN, 2)], [(BEGIN, 4), (TELL, 0, 1, 0)], [(BEGIN, 3), (TELL, 2, 0, 5), (FREE, 0, 1)]):
            self.assertEqual(ask(*before, *calls)[len(before):], answered_to(*given))

    def test_asking_and_refusing_change_nothing(self):
        calls = [(BEGIN, 3), (TELL, 0, 1, 9), (TELL, 0, 2, 3), (TELL, 1, 2, 10)]
        after = [(TELL, 0, 1, ALL_WAYS), (TELL, 0, 2, ALL_WAYS), (TELL, 1, 2, ALL_WAYS), (MANY,), (PICTURE,)]
        for given in REFUSED + ((1, 1), (0, 0), (8191, 8191)):
            with_through = ask(*calls, (THROUGH, *given), *after)
            self.assertEqual(with_through[5:], ask(*calls, *after)[4:])
            self.assertEqual(last(*calls, (THROUGH, *given), (THROUGH, *given)), with_through[4])


if __name__ == "__main__":
    unittest.main()

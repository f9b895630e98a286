import unittest

from reference import ALL_WAYS, BEGIN, FREE, GREATEST, MANY, PICTURE, TELL, TURNED
from reference import ask, bits, last, plain_lists, turned, way

REFUSED = (8192, 8193, 12288, 16383, 16384, 2147483648, 4294967294, GREATEST)


def answered_to(*given):
    return ask((BEGIN, 2), *[(TURNED, ways) for ways in given])[1:]


class Turned(unittest.TestCase):
    def test_each_single_way(self):
        for k in range(13):
            self.assertEqual(answered_to(1 << k), [[1 << (12 - k)]])

    def test_each_list_of_two_spans(self):
        for (x, y), ways in plain_lists(2):
            self.assertEqual(answered_to(1 << way(x, y)), [[1 << way(y, x)]])

    def test_sets_of_several_ways(self):
        self.assertEqual(answered_to(bits(0, 1, 4, 6)), [[bits(12, 11, 8, 6)]])
        self.assertEqual(answered_to(bits(2, 3), bits(5, 7)), [[bits(10, 9)], [bits(7, 5)]])
        self.assertEqual(answered_to(4095, 8190), [[8190], [4095]])

    def test_none_and_all(self):
        self.assertEqual(answered_to(0, 8191), [[0], [8191]])

    def test_every_set_and_turned_twice(self):
        for first in range(0, 8192, 256):
            sets = list(range(first, first + 256))
            once = answered_to(*sets)
            self.assertEqual(once, [[turned(ways)] for ways in sets])
            self.assertEqual(answered_to(*[ways for ways, in once]), [[ways] for ways in sets])

    def test_refusals(self):
        for ways in REFUSED:
            self.assertEqual(answered_to(ways), [[-22]])

    def test_it_does_not_rest_on_what_was_told(self):
        calls = [(TURNED, ways) for ways in (0, 1, 77, 8191, 8192)]
        for before in ([(BEGIN, 4)], [(BEGIN, 4), (TELL, 0, 1, 0)], [(BEGIN, 3), (TELL, 2, 0, 5), (FREE, 0, 1)]):
            self.assertEqual(ask(*before, *calls)[len(before):], [[0], [4096], [turned(77)], [8191], [-22]])

    def test_asking_and_refusing_change_nothing(self):
        calls = [(BEGIN, 3), (TELL, 0, 1, 9), (TELL, 0, 2, 3), (TELL, 1, 2, 10)]
        after = [(TELL, 0, 1, ALL_WAYS), (TELL, 0, 2, ALL_WAYS), (TELL, 1, 2, ALL_WAYS), (MANY,), (PICTURE,)]
        for ways in REFUSED + (0, 9, 8191):
            self.assertEqual(ask(*calls, (TURNED, ways), *after)[5:], ask(*calls, *after)[4:])
            self.assertEqual(last(*calls, (TURNED, ways), (TURNED, ways)), answered_to(ways)[0])


if __name__ == "__main__":
    unittest.main()

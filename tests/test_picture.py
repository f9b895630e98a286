import itertools
import random
import time
import unittest

from reference import ALL_WAYS, BEGIN, FREE, MANY, PICTURE, TELL
from reference import ask, bits, expected, last, pairs, plain_lists, said_of


class Picture(unittest.TestCase):
    def test_all_ways(self):
        for n in (2, 3, 4):
            self.assertEqual(last((BEGIN, n), (PICTURE,)), [n] + [0, 1] * n)

    def test_two_spans_in_each_way(self):
        pictures = (
            [0, 1, 2, 3], [0, 1, 1, 2], [0, 2, 1, 3], [0, 1, 0, 2], [1, 2, 0, 3], [1, 2, 0, 2], [0, 1, 0, 1],
            [0, 2, 1, 2], [0, 3, 1, 2], [0, 2, 0, 1], [1, 3, 0, 2], [1, 2, 0, 1], [2, 3, 0, 1],
        )
        for k in range(13):
            self.assertEqual(last((BEGIN, 2), (TELL, 0, 1, 1 << k), (PICTURE,)), [2] + pictures[k])

    def test_the_least_first_number_comes_before_all_else(self):
        # Of 4 (1, 2, 0, 3) and 8 (0, 3, 1, 2) the second has the lesser first number.
        self.assertEqual(last((BEGIN, 2), (TELL, 0, 1, bits(4, 8)), (PICTURE,)), [2, 0, 3, 1, 2])
        # Of 8 (0, 3, 1, 2) and 0 (0, 1, 2, 3) the second has the lesser second number.
        self.assertEqual(last((BEGIN, 2), (TELL, 0, 1, bits(0, 8)), (PICTURE,)), [2, 0, 1, 2, 3])
        # Of 0 (0, 1, 2, 3), 1 (0, 1, 1, 2) and 3 (0, 1, 0, 2) the last has the least third number.
        self.assertEqual(last((BEGIN, 2), (TELL, 0, 1, bits(0, 1, 3)), (PICTURE,)), [2, 0, 1, 0, 2])

    def test_no_number_is_left_out(self):
        apart = [(TELL, 3, 2, 1), (TELL, 2, 1, 1), (TELL, 1, 0, 1)]
        self.assertEqual(last((BEGIN, 4), *apart, (PICTURE,)), [4, 6, 7, 4, 5, 2, 3, 0, 1])

    def test_lists_of_three_spans_are_each_their_own_picture(self):
        for spans, ways in plain_lists(3):
            numbers = [number for span in spans for number in span]
            self.assertEqual(last((BEGIN, 3), *said_of(spans), (PICTURE,)), [3] + numbers)

    def test_lists_of_four_spans_are_each_their_own_picture(self):
        for spans, ways in plain_lists(4)[::61]:
            numbers = [number for span in spans for number in span]
            self.assertEqual(last((BEGIN, 4), *said_of(spans), (PICTURE,)), [4] + numbers)

    def test_three_spans_of_one_way_each(self):
        there = [ways for spans, ways in plain_lists(3)]
        for ways in itertools.product(range(0, 13, 2), repeat=3):
            calls = [(BEGIN, 3)] + [(TELL, i, j, 1 << k) for (i, j), k in zip(pairs(3), ways)]
            self.assertEqual(last(*calls, (PICTURE,)) == [-6], list(ways) not in there)

    def test_where_there_are_no_spans(self):
        for n in (2, 3, 4):
            for i, j in pairs(n):
                self.assertEqual(last((BEGIN, n), (TELL, i, j, 0), (PICTURE,)), [-6])
        self.assertEqual(last((BEGIN, 3), (TELL, 0, 1, 1), (TELL, 1, 2, 1), (TELL, 2, 0, 1), (PICTURE,)), [-6])

    def test_no_picture_changes_nothing(self):
        calls = [(BEGIN, 3), (TELL, 0, 1, 1), (TELL, 1, 2, 1), (TELL, 2, 0, 1), (PICTURE,)]
        after = [(TELL, 0, 1, ALL_WAYS), (TELL, 1, 2, ALL_WAYS), (TELL, 0, 2, ALL_WAYS), (FREE, 0, 2), (PICTURE,)]
        self.assertEqual(ask(*calls, *after)[4:], [[-6], [1], [1], [4096], [0], [3, 0, 1, 2, 3, 4, 5]])

    def test_sets_of_some_ways(self):
        draw = random.Random(5)
        for n, times in ((2, 60), (3, 200), (4, 60)):
            for number in range(times):
                calls = [(BEGIN, n)]
                most = draw.randrange(1, 13)
                for i, j in pairs(n):
                    i, j = draw.choice(((i, j), (j, i)))
                    calls.append((TELL, i, j, bits(*draw.sample(range(13), draw.randrange(1, most + 1)))))
                calls.append((PICTURE,))
                self.assertEqual(ask(*calls), expected(calls), calls)

    def test_sets_round_a_list_that_is_there(self):
        draw = random.Random(6)
        for number in range(60):
            spans, ways = draw.choice(plain_lists(4))
            calls = [(BEGIN, 4)]
            for (i, j), k in zip(pairs(4), ways):
                calls.append((TELL, i, j, bits(k, *draw.sample(range(13), draw.randrange(4)))))
            calls.append((PICTURE,))
            self.assertEqual(ask(*calls), expected(calls), calls)

    def test_none_is_told_just_if_there_are_none(self):
        draw = random.Random(8)
        for number in range(300):
            calls = [(BEGIN, 4)]
            for i, j in pairs(4):
                calls.append((TELL, i, j, bits(*draw.sample(range(13), 2))))
            many, picture = ask(*calls, (MANY,), (PICTURE,))[-2:]
            self.assertEqual(many == [0], picture == [-6])

    def test_four_spans_many_times_in_a_few_seconds(self):
        # Sets whose first list stands far behind in the order, so that the search is long.
        sets = (8191, 8191, 1576, 8191, 8191, 1)
        calls = [(BEGIN, 4)] + [(TELL, i, j, told) for (i, j), told in zip(pairs(4), sets)]
        started = time.monotonic()
        answered = ask(*calls, *[(PICTURE,)] * 293)[7:]
        self.assertLess(time.monotonic() - started, 20)
        self.assertEqual(answered, [expected(calls + [(PICTURE,)])[-1]] * 293)


if __name__ == "__main__":
    unittest.main()

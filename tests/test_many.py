import itertools
import random
import time
import unittest

from reference import ALL_WAYS, BEGIN, FREE, MANY, TELL
from reference import ask, bits, expected, last, pairs, plain_lists, said_of


class Many(unittest.TestCase):
    def test_all_ways(self):
        for n, count in ((2, 13), (3, 409), (4, 23917)):
            self.assertEqual(last((BEGIN, n), (MANY,)), [count])
            self.assertEqual(len(plain_lists(n)), count)

    def test_two_spans_have_as_many_lists_as_ways(self):
        for told in (0, 1, 64, 4096, 3, 4097, 5461, 8190, ALL_WAYS):
            for i, j in ((0, 1), (1, 0)):
                self.assertEqual(last((BEGIN, 2), (TELL, i, j, told), (MANY,)), [bin(told).count("1")])

    def test_three_spans_of_one_way_each(self):
        there = [ways for spans, ways in plain_lists(3)]
        for ways in itertools.product(range(13), repeat=3):
            calls = [(BEGIN, 3)] + [(TELL, i, j, 1 << k) for (i, j), k in zip(pairs(3), ways)]
            self.assertEqual(last(*calls, (MANY,)), [int(list(ways) in there)], ways)

    def test_three_spans_of_one_way_each_told_the_other_way_about(self):
        for spans, ways in plain_lists(3)[::5]:
            calls = [(BEGIN, 3)] + [(TELL, j, i, 1 << (12 - k)) for (i, j), k in zip(pairs(3), ways)]
            self.assertEqual(last(*calls, (MANY,)), [1])

    def test_four_spans_of_one_way_each(self):
        for spans, ways in plain_lists(4)[::97]:
            self.assertEqual(last((BEGIN, 4), *said_of(spans), (MANY,)), [1])

    def test_four_spans_of_one_way_each_that_leave_no_list(self):
        draw = random.Random(4)
        there = {tuple(ways) for spans, ways in plain_lists(4)}
        for number in range(300):
            # One way is drawn anew, so that most of the threes of spans still fit.
            ways = list(draw.choice(plain_lists(4))[1])
            ways[draw.randrange(6)] = draw.randrange(13)
            calls = [(BEGIN, 4)] + [(TELL, i, j, 1 << k) for (i, j), k in zip(pairs(4), ways)]
            self.assertEqual(last(*calls, (MANY,)), [int(tuple(ways) in there)], ways)

    def test_a_set_without_ways_leaves_no_list(self):
        for n in (2, 3, 4):
            for i, j in pairs(n):
                self.assertEqual(last((BEGIN, n), (TELL, i, j, 0), (MANY,)), [0])
                self.assertEqual(last((BEGIN, n), (TELL, j, i, 0), (MANY,)), [0])

    def test_a_ring_leaves_no_list(self):
        self.assertEqual(last((BEGIN, 3), (TELL, 0, 1, 1), (TELL, 1, 2, 1), (TELL, 2, 0, 1), (MANY,)), [0])
        ring = [(TELL, 0, 1, 1), (TELL, 1, 2, 1), (TELL, 2, 3, 1), (TELL, 3, 0, 1)]
        self.assertEqual(last((BEGIN, 4), *ring, (MANY,)), [0])

    def test_sets_of_some_ways(self):
        draw = random.Random(7)
        for n, times in ((3, 150), (4, 40)):
            for number in range(times):
                calls = [(BEGIN, n)]
                for i, j in pairs(n):
                    if draw.random() < 0.8:
                        i, j = draw.choice(((i, j), (j, i)))
                        calls.append((TELL, i, j, bits(*draw.sample(range(13), draw.randrange(1, 13)))))
                calls.append((MANY,))
                self.assertEqual(ask(*calls), expected(calls), calls)

    def test_told_more_no_more_lists(self):
        draw = random.Random(11)
        for number in range(20):
            calls = [(BEGIN, 4), (MANY,)]
            for step in range(12):
                i, j = draw.sample(range(4), 2)
                calls += [(TELL, i, j, ALL_WAYS & ~(1 << draw.randrange(13))), (MANY,)]
            counts = [answer[0] for answer in ask(*calls)[1::2]]
            self.assertEqual(counts, sorted(counts, reverse=True))

    def test_asking_changes_nothing(self):
        calls = [(BEGIN, 3), (TELL, 0, 1, 77), (MANY,), (MANY,), (TELL, 0, 1, ALL_WAYS), (TELL, 1, 2, ALL_WAYS)]
        answered = ask(*calls)
        self.assertEqual(answered[2], answered[3])
        self.assertEqual(answered[4:], [[77], [ALL_WAYS]])

    def test_four_spans_many_times_in_a_few_seconds(self):
        calls = [(BEGIN, 4)] + [(MANY,)] * 299
        started = time.monotonic()
        self.assertEqual(ask(*calls)[1:], [[23917]] * 299)
        self.assertLess(time.monotonic() - started, 10)

    def test_four_spans_with_other_sets_each_time_in_a_few_seconds(self):
        calls = [(BEGIN, 4)]
        for number in range(99):
            i, j = pairs(4)[number % 6]
            calls += [(TELL, i, j, ALL_WAYS & ~(1 << (number % 13))), (MANY,), (FREE, i, j)]
        started = time.monotonic()
        counts = [answer[0] for answer in ask(*calls)[2::3]]
        self.assertLess(time.monotonic() - started, 10)
        self.assertTrue(all(0 < count < 23917 for count in counts))


if __name__ == "__main__":
    unittest.main()

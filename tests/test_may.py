import itertools
import random
import time
import unittest

from reference import ALL_WAYS, BEGIN, FREE, GREATEST, MANY, MAY, PICTURE, TELL
from reference import ask, bits, expected, last, pairs, plain_lists, said_of, turned, way

REFUSED = (
    (0, 0), (1, 1), (2, 2), (0, 3), (3, 0), (3, 3), (1, 4), (4, 1), (0, GREATEST), (GREATEST, 2),
    (GREATEST, GREATEST),
)

# Every three of the spans can lie so, in each way of each set; 0 lies to 1 in way 2 in no list of all four.
THREE_BY_THREE = (bits(0, 2, 3), bits(9), bits(7), bits(9, 12), bits(8, 12), bits(2))

# Every three of the spans can lie so, in each way of each set; all four can't.
ONLY_THREE_BY_THREE = (bits(5, 9), bits(7, 10), bits(5, 12), bits(4, 7), bits(4, 9), bits(5, 10))


def both_ways(n):
    return list(itertools.permutations(range(n), 2))


def told(n, sets):
    return [(BEGIN, n)] + [(TELL, i, j, ways) for (i, j), ways in zip(pairs(n), sets)]


def asked(n):
    return [(MAY, i, j) for i, j in both_ways(n)]


class May(unittest.TestCase):
    def test_all_ways_where_nothing_was_told(self):
        for n in (2, 3, 4):
            for i, j in both_ways(n):
                self.assertEqual(last((BEGIN, n), (MAY, i, j)), [ALL_WAYS])

    def test_two_spans_have_their_set(self):
        for ways in range(0, 8192, 7):
            calls = [(BEGIN, 2), (TELL, 0, 1, ways), (MAY, 0, 1), (MAY, 1, 0)]
            self.assertEqual(ask(*calls)[2:], [[ways], [turned(ways)]])

    def test_how_i_lies_to_j(self):
        for k in range(13):
            for n in (2, 3, 4):
                for i, j in both_ways(n):
                    calls = [(BEGIN, n), (TELL, i, j, 1 << k), (MAY, i, j), (MAY, j, i)]
                    self.assertEqual(ask(*calls)[2:], [[1 << k], [1 << (12 - k)]])

    def test_what_follows_by_a_third_span(self):
        # 0 ends before 1 begins, and 1 lies within 2.
        calls = [(BEGIN, 3), (TELL, 0, 1, 1), (TELL, 1, 2, bits(4)), (MAY, 0, 2), (MAY, 2, 0)]
        self.assertEqual(ask(*calls)[3:], [[bits(0, 1, 2, 3, 4)], [bits(12, 11, 10, 9, 8)]])

    def test_a_way_of_a_set_that_no_list_has(self):
        # 0 is the same as 1, so that 0 and 1 lie to 2 in one way.
        calls = [(BEGIN, 3), (TELL, 0, 1, bits(6)), (TELL, 0, 2, bits(0, 1, 2)), (TELL, 1, 2, bits(1, 2, 3))]
        self.assertEqual(ask(*calls, (MAY, 0, 2), (MAY, 2, 1))[4:], [[bits(1, 2)], [bits(11, 10)]])

    def test_the_lists_themselves(self):
        for n, step in ((2, 1), (3, 4), (4, 331)):
            for spans, ways in plain_lists(n)[::step]:
                answered = [[1 << way(spans[i], spans[j])] for i, j in both_ways(n)]
                self.assertEqual(ask((BEGIN, n), *said_of(spans), *asked(n))[1 + len(pairs(n)):], answered)

    def test_four_spans_that_fit_three_by_three(self):
        for four in (THREE_BY_THREE, ONLY_THREE_BY_THREE):
            sets = dict(zip(pairs(4), four))
            for three in itertools.combinations(range(4), 3):
                some = [sets[(three[i], three[j])] for i, j in pairs(3)]
                answered = ask(*told(3, some), *[(MAY, i, j) for i, j in pairs(3)])[4:]
                self.assertEqual(answered, [[ways] for ways in some])

    def test_four_spans_do_not_have_every_way_that_each_three_have(self):
        calls = told(4, THREE_BY_THREE)
        self.assertEqual(last(*calls, (MAY, 0, 1)), [bits(0, 3)])
        self.assertEqual(last(*calls, (MAY, 1, 0)), [bits(12, 9)])
        calls += asked(4)
        self.assertEqual(ask(*calls), expected(calls))

    def test_four_spans_have_no_way_though_each_three_have(self):
        calls = told(4, ONLY_THREE_BY_THREE)
        self.assertEqual(ask(*calls, *asked(4), (MANY,), (PICTURE,))[7:], [[0]] * 13 + [[-6]])

    def test_no_spans_that_lie_as_they_may(self):
        for n in (2, 3, 4):
            for i, j in pairs(n):
                calls = [(BEGIN, n), (TELL, i, j, 0)] + asked(n)
                self.assertEqual(ask(*calls)[2:], [[0]] * (n * (n - 1)))
        ring = [(TELL, 0, 1, 1), (TELL, 1, 2, 1), (TELL, 2, 0, 1)]
        self.assertEqual(ask((BEGIN, 3), *ring, *asked(3))[4:], [[0]] * 6)
        self.assertEqual(ask((BEGIN, 4), *ring, *asked(4))[4:], [[0]] * 12)

    def test_sets_of_some_ways(self):
        draw = random.Random(12)
        for n, times in ((2, 30), (3, 150), (4, 60)):
            for number in range(times):
                most = draw.randrange(1, 13)
                calls = [(BEGIN, n)]
                for i, j in pairs(n):
                    if draw.random() < 0.9:
                        i, j = draw.choice(((i, j), (j, i)))
                        calls.append((TELL, i, j, bits(*draw.sample(range(13), draw.randrange(1, most + 1)))))
                calls += asked(n)
                self.assertEqual(ask(*calls), expected(calls), calls)

    def test_sets_round_a_list_that_is_there(self):
        draw = random.Random(13)
        for number in range(60):
            spans, ways = draw.choice(plain_lists(4))
            sets = [bits(k, *draw.sample(range(13), draw.randrange(5))) for k in ways]
            calls = told(4, sets) + asked(4)
            self.assertEqual(ask(*calls), expected(calls), calls)

    def test_behind_tell_free_and_begin(self):
        calls = [
            (BEGIN, 3), (MAY, 0, 2),
            (TELL, 0, 1, 1), (TELL, 1, 2, 1), (MAY, 0, 2), (MAY, 2, 0),
            (FREE, 2, 1), (MAY, 0, 2), (MAY, 2, 1),
            (FREE, 0, 1), (TELL, 0, 1, 64), (TELL, 2, 0, 3), (MAY, 1, 2),
            (BEGIN, 3), (MAY, 0, 1), (MAY, 1, 2),
            (BEGIN, 2), (MAY, 0, 1), (MAY, 0, 2),
        ]
        answered = [
            [0], [ALL_WAYS],
            [1], [1], [1], [4096],
            [0], [ALL_WAYS], [ALL_WAYS],
            [0], [64], [6144], [6144],
            [0], [ALL_WAYS], [ALL_WAYS],
            [0], [ALL_WAYS], [-22],
        ]
        self.assertEqual(ask(*calls), answered)

    def test_refusals(self):
        for i, j in REFUSED:
            self.assertEqual(last((BEGIN, 3), (MAY, i, j)), [-22], (i, j))
        for n in (2, 3, 4):
            for k in range(n):
                self.assertEqual(last((BEGIN, n), (MAY, k, k)), [-22])
                self.assertEqual(last((BEGIN, n), (MAY, k, n)), [-22])
                self.assertEqual(last((BEGIN, n), (MAY, n, k)), [-22])

    def test_refused_where_there_are_no_lists_too(self):
        for refused in REFUSED:
            self.assertEqual(last((BEGIN, 3), (TELL, 0, 1, 0), (MAY, *refused)), [-22])

    def test_a_refusal_changes_nothing(self):
        calls = [(BEGIN, 3), (TELL, 0, 1, 9), (TELL, 0, 2, 3), (TELL, 1, 2, 10)]
        after = [(TELL, 0, 1, ALL_WAYS), (TELL, 0, 2, ALL_WAYS), (TELL, 1, 2, ALL_WAYS), (MANY,), (PICTURE,)]
        for refused in REFUSED:
            with_refusal = ask(*calls, (MAY, *refused), *after)
            self.assertEqual(with_refusal[4:8], [[-22], [9], [3], [10]])
            self.assertEqual(with_refusal[5:], ask(*calls, *after)[4:])

    def test_asking_changes_nothing_that_was_told(self):
        for n, sets in ((3, (64, 7, 14)), (4, THREE_BY_THREE), (4, ONLY_THREE_BY_THREE)):
            calls = told(n, sets)
            after = [(TELL, i, j, ALL_WAYS) for i, j in pairs(n)] + [(MANY,), (PICTURE,)]
            behind = ask(*calls, *asked(n), *asked(n), *after)[len(calls):]
            self.assertEqual(behind[:n * (n - 1)], behind[n * (n - 1):2 * n * (n - 1)])
            self.assertEqual(behind[-len(after):], ask(*calls, *after)[len(calls):])
            self.assertEqual(behind[-len(after):-2], [[ways] for ways in sets])

    def test_four_spans_many_times_in_a_few_seconds(self):
        calls = [(BEGIN, 4)] + [(MAY, *both_ways(4)[number % 12]) for number in range(299)]
        started = time.monotonic()
        self.assertEqual(ask(*calls)[1:], [[ALL_WAYS]] * 299)
        self.assertLess(time.monotonic() - started, 10)

    def test_four_spans_with_other_sets_each_time_in_a_few_seconds(self):
        calls = [(BEGIN, 4)]
        for number in range(99):
            i, j = pairs(4)[number % 6]
            calls += [(TELL, i, j, ALL_WAYS & ~(1 << (number % 13))), (MAY, j, i), (FREE, j, i)]
        started = time.monotonic()
        answered = ask(*calls)
        self.assertLess(time.monotonic() - started, 10)
        self.assertEqual(answered[2::3], [[turned(ways)] for ways, in answered[1::3]])


if __name__ == "__main__":
    unittest.main()

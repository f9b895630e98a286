import unittest

from reference import ALL_WAYS, BEGIN, GREATEST, MANY, PICTURE, TELL, ask, bits, last

REFUSED = (
    (0, 0, 1), (2, 2, 1), (0, 3, 1), (3, 0, 1), (3, 3, 1), (4, 1, 1), (1, 4, 1), (0, GREATEST, 1),
    (GREATEST, 0, 1), (GREATEST, GREATEST, 1), (0, 1, 8192), (1, 0, 8192), (0, 1, 8193), (0, 1, 16383),
    (0, 1, GREATEST), (0, 0, GREATEST), (3, 0, 8192),
)


class Tell(unittest.TestCase):
    def test_only_what_is_in_set_stays(self):
        for n in (2, 3, 4):
            for told in (0, 1, 2, 64, 4096, 5000, 8190, ALL_WAYS):
                self.assertEqual(last((BEGIN, n), (TELL, 0, 1, told)), [told])
                self.assertEqual(last((BEGIN, n), (TELL, n - 2, n - 1, told)), [told])

    def test_each_way_is_turned_where_i_is_the_greater(self):
        for k in range(13):
            self.assertEqual(last((BEGIN, 2), (TELL, 1, 0, 1 << k)), [1 << (12 - k)])
            self.assertEqual(last((BEGIN, 4), (TELL, 3, 1, 1 << k)), [1 << (12 - k)])

    def test_sets_of_several_ways_are_turned(self):
        self.assertEqual(last((BEGIN, 3), (TELL, 2, 0, bits(0, 1, 4, 6))), [bits(12, 11, 8, 6)])
        self.assertEqual(last((BEGIN, 3), (TELL, 2, 0, 0)), [0])
        self.assertEqual(last((BEGIN, 3), (TELL, 2, 0, ALL_WAYS)), [ALL_WAYS])

    def test_several_tells_on_the_same_two(self):
        calls = [
            (BEGIN, 3),
            (TELL, 0, 2, bits(0, 1, 2, 3, 7)),
            (TELL, 0, 2, bits(1, 2, 3, 8)),
            (TELL, 2, 0, bits(11, 10, 5)),
            (TELL, 2, 0, ALL_WAYS),
            (TELL, 0, 2, bits(2)),
            (TELL, 0, 2, bits(1)),
            (TELL, 0, 2, ALL_WAYS),
        ]
        sets = [bits(0, 1, 2, 3, 7), bits(1, 2, 3), bits(1, 2), bits(1, 2), bits(2), 0, 0]
        self.assertEqual(ask(*calls), [[0]] + [[told] for told in sets])

    def test_other_pairs_keep_their_sets(self):
        calls = [(BEGIN, 4), (TELL, 0, 1, 1), (TELL, 2, 1, 2), (TELL, 3, 0, 4)]
        after = [(TELL, i, j, ALL_WAYS) for i, j in ((0, 1), (0, 2), (0, 3), (1, 2), (1, 3), (2, 3))]
        self.assertEqual(ask(*calls, *after)[4:], [[1], [ALL_WAYS], [1024], [2048], [ALL_WAYS], [ALL_WAYS]])

    def test_the_sets_told_are_not_drawn_closer_by_the_others(self):
        calls = [(BEGIN, 3), (TELL, 0, 1, 1), (TELL, 1, 2, 1), (MANY,), (PICTURE,), (TELL, 0, 2, ALL_WAYS)]
        self.assertEqual(last(*calls), [ALL_WAYS])

    def test_refusals(self):
        for i, j, told in REFUSED:
            self.assertEqual(last((BEGIN, 3), (TELL, i, j, told)), [-22], (i, j, told))

    def test_greatest_numbers_that_are_not_refused(self):
        self.assertEqual(last((BEGIN, 3), (TELL, 2, 1, 8191)), [8191])
        self.assertEqual(last((BEGIN, 4), (TELL, 2, 3, 8190)), [8190])

    def test_a_refusal_changes_nothing(self):
        calls = [(BEGIN, 3), (TELL, 0, 1, 9), (TELL, 1, 2, 10)]
        after = [(TELL, 0, 1, ALL_WAYS), (TELL, 0, 2, ALL_WAYS), (TELL, 1, 2, ALL_WAYS), (MANY,), (PICTURE,)]
        for refused in REFUSED:
            with_refusal = ask(*calls, (TELL, *refused), *after)
            self.assertEqual(with_refusal[3], [-22])
            self.assertEqual(with_refusal[4:7], [[9], [ALL_WAYS], [10]])
            self.assertEqual(with_refusal[4:], ask(*calls, *after)[3:])


if __name__ == "__main__":
    unittest.main()

import unittest

from reference import ALL_WAYS, BEGIN, FREE, GREATEST, MANY, PICTURE, TELL, ask, last

REFUSED = (
    (0, 0), (1, 1), (2, 2), (0, 3), (3, 0), (3, 3), (1, 4), (4, 1), (0, GREATEST), (GREATEST, 2),
    (GREATEST, GREATEST),
)


class Free(unittest.TestCase):
    def test_all_ways_behind_a_tell(self):
        for i, j in ((0, 1), (1, 0), (0, 2), (2, 0), (1, 2), (2, 1)):
            for told in (0, 1, 5000, ALL_WAYS):
                calls = [(BEGIN, 3), (TELL, i, j, told), (FREE, i, j), (TELL, i, j, ALL_WAYS), (MANY,)]
                self.assertEqual(ask(*calls)[2:], [[0], [ALL_WAYS], [409]])

    def test_i_and_j_either_way_about(self):
        self.assertEqual(ask((BEGIN, 4), (TELL, 1, 3, 7), (FREE, 3, 1), (TELL, 1, 3, 4097))[2:], [[0], [4097]])
        self.assertEqual(ask((BEGIN, 4), (TELL, 3, 1, 7), (FREE, 1, 3), (TELL, 3, 1, 4097))[2:], [[0], [4097]])

    def test_where_nothing_was_told(self):
        self.assertEqual(ask((BEGIN, 2), (FREE, 0, 1), (FREE, 1, 0), (MANY,)), [[0], [0], [0], [13]])

    def test_the_other_pairs_keep_their_sets(self):
        calls = [(BEGIN, 3), (TELL, 0, 1, 1), (TELL, 0, 2, 2), (TELL, 1, 2, 4), (FREE, 2, 0)]
        after = [(TELL, 0, 1, ALL_WAYS), (TELL, 0, 2, ALL_WAYS), (TELL, 1, 2, ALL_WAYS)]
        self.assertEqual(ask(*calls, *after)[4:], [[0], [1], [ALL_WAYS], [4]])

    def test_refusals(self):
        for i, j in REFUSED:
            self.assertEqual(last((BEGIN, 3), (FREE, i, j)), [-22], (i, j))
        self.assertEqual(last((BEGIN, 2), (FREE, 0, 2)), [-22])
        self.assertEqual(last((BEGIN, 4), (FREE, 0, 3)), [0])

    def test_a_refusal_changes_nothing(self):
        calls = [(BEGIN, 3), (TELL, 0, 1, 9), (TELL, 0, 2, 3), (TELL, 1, 2, 10)]
        after = [(TELL, 0, 1, ALL_WAYS), (TELL, 0, 2, ALL_WAYS), (TELL, 1, 2, ALL_WAYS), (MANY,), (PICTURE,)]
        for refused in REFUSED:
            with_refusal = ask(*calls, (FREE, *refused), *after)
            self.assertEqual(with_refusal[4:8], [[-22], [9], [3], [10]])
            self.assertEqual(with_refusal[5:], ask(*calls, *after)[4:])


if __name__ == "__main__":
    unittest.main()

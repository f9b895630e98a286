import unittest

from reference import ALL_WAYS, BEGIN, FREE, GREATEST, MANY, PICTURE, TELL, ask, last


class Begin(unittest.TestCase):
    def test_two_to_four_spans_are_begun(self):
        for n in (2, 3, 4):
            self.assertEqual(ask((BEGIN, n)), [[0]])

    def test_other_numbers_of_spans_are_refused(self):
        for n in (0, 1, 5, 6, 13, 8191, 4294967294, GREATEST):
            self.assertEqual(ask((BEGIN, n)), [[-22]])

    def test_all_ways_at_first(self):
        for n in (2, 3, 4):
            for j in range(n):
                for i in range(n):
                    if i != j:
                        self.assertEqual(last((BEGIN, n), (TELL, i, j, ALL_WAYS)), [ALL_WAYS])

    def test_there_are_just_n_spans(self):
        for n in (2, 3, 4):
            self.assertEqual(last((BEGIN, n), (TELL, 0, n - 1, 5)), [5])
            self.assertEqual(last((BEGIN, n), (TELL, 0, n, 5)), [-22])
            self.assertEqual(last((BEGIN, n), (FREE, n, 0)), [-22])
            self.assertEqual(last((BEGIN, n), (PICTURE,))[0], n)

    def test_refused_again_and_again_till_one_is_begun(self):
        calls = [(BEGIN, 0), (BEGIN, 1), (BEGIN, 5), (BEGIN, GREATEST), (BEGIN, 3), (MANY,)]
        self.assertEqual(ask(*calls), [[-22], [-22], [-22], [-22], [0], [409]])

    def test_begun_again_it_is_all_ways_again(self):
        for n in (2, 3, 4):
            calls = [(BEGIN, 3), (TELL, 0, 1, 0), (TELL, 1, 2, 8), (BEGIN, n), (TELL, 0, 1, ALL_WAYS), (MANY,)]
            self.assertEqual(ask(*calls)[3:], [[0], [ALL_WAYS], [{2: 13, 3: 409, 4: 23917}[n]]])

    def test_begun_again_with_fewer_spans(self):
        calls = [(BEGIN, 4), (BEGIN, 2), (TELL, 1, 2, 1), (FREE, 0, 3), (TELL, 1, 0, 1)]
        self.assertEqual(ask(*calls), [[0], [0], [-22], [-22], [4096]])

    def test_a_refused_begin_changes_nothing(self):
        for n in (0, 1, 5, GREATEST):
            calls = [(BEGIN, 3), (TELL, 0, 1, 3), (TELL, 2, 1, 2), (BEGIN, n)]
            self.assertEqual(ask(*calls)[3], [-22])
            self.assertEqual(last(*calls, (TELL, 0, 1, ALL_WAYS)), [3])
            self.assertEqual(last(*calls, (TELL, 1, 2, ALL_WAYS)), [2048])
            self.assertEqual(last(*calls, (TELL, 0, 2, ALL_WAYS)), [ALL_WAYS])
            self.assertEqual(last(*calls, (MANY,)), last(*calls[:3], (MANY,)))
            self.assertEqual(last(*calls, (PICTURE,)), last(*calls[:3], (PICTURE,)))
            self.assertEqual(last(*calls, (TELL, 0, 3, 1)), [-22])


if __name__ == "__main__":
    unittest.main()

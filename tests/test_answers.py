import random
import unittest

from reference import ALL_WAYS, BEGIN, FREE, GREATEST, GREATEST_END, LEAST_END
from reference import LIES, MANY, MAY, PICTURE, TELL, THROUGH, TURNED
from reference import answers, ask, bits, expected, flat

ONE_OF_EACH = [
    0, 3, 1, 2, 0, 9, 5, 0, 2, 6, 3, 4097, 7, 5, 8, -1, 4, 2, 3, 3, 4, 2, 0, 2, 4,
    5, 1, 1, 6, 8192, 0, 7, 8192, 8, 1, 1, 2, 3, 0, 7,
]


def drawn_call(draw, n):
    i = draw.choice((draw.randrange(n), draw.randrange(n), draw.randrange(6), GREATEST))
    j = draw.choice((draw.randrange(n), draw.randrange(n), draw.randrange(6)))
    some = bits(*draw.sample(range(13), draw.randrange(6, 14)))
    told = draw.choice((some, some, some, some, 0, ALL_WAYS, 8192, draw.randrange(GREATEST)))
    ends = [draw.choice((draw.randrange(-4, 5), LEAST_END, GREATEST_END)) for end in range(4)]
    return draw.choice((
        (BEGIN, draw.choice((0, 1, 2, 3, 3, 5, GREATEST))),
        (TELL, i, j, told), (TELL, i, j, told), (TELL, i, j, told), (TELL, i, j, some),
        (FREE, i, j), (MANY,), (PICTURE,), (MANY,), (PICTURE,), (MAY, i, j), (MAY, j, i),
        (THROUGH, told, some), (THROUGH, some, told), (TURNED, told), (LIES, *ends), (LIES, *sorted(ends)),
    ))


class Answers(unittest.TestCase):
    def test_how_many_numbers_stands_ahead_of_each_answer(self):
        calls = [0, 9, 0, 2, 3, 4, 1, 1, 0, 3, 2, 0, 0, 4, 2, 1, 0, 1, 0, 1, 0, 4, 3]
        answered = [
            1, -22, 1, 0, 1, 13, 5, 2, 0, 1, 0, 1, 1, 6144, 1, -22, 5, 2, 1, 2, 0, 1, 1, 0, 1, 0, 1, -6, 1, 0,
        ]
        self.assertEqual(answers(calls), answered)

    def test_numbers_of_each_answer(self):
        self.assertEqual(answers([0, 3, 4]), [1, 0, 7, 3, 0, 1, 0, 1, 0, 1])
        self.assertEqual(answers([0, 4, 4]), [1, 0, 9, 4, 0, 1, 0, 1, 0, 1, 0, 1])
        self.assertEqual(answers([0, 0]), [1, -22])
        self.assertEqual(answers([0, 2, 5, 1, 0]), [1, 0, 1, 8191])
        self.assertEqual(answers([0, 2, 6, 64, 3]), [1, 0, 1, 3])
        self.assertEqual(answers([0, 2, 7, 3]), [1, 0, 1, 6144])
        self.assertEqual(answers([0, 2, 8, -1, 0, 0, 1]), [1, 0, 1, 1])

    def test_one_of_each_call_and_of_each_refusal(self):
        answered = [
            1, 0, 1, 4608, 1, 4608, 1, 8191, 1, 5120, 1, 8, 1, 66, 7, 3, 0, 2, 0, 1, 0, 1, 1, 0, 7, 3, 0, 1, 0, 1, 0, 1,
            1, -22, 1, -22, 1, -22, 1, -22, 1, -22,
        ]
        # many: 41 lists in which 2 ends before 0 begins, and 25 in which it begins with it and ends before it.
        self.assertEqual(answers(ONE_OF_EACH), answered)

    def test_the_other_calls_go_on_behind_a_begin_that_is_refused(self):
        calls = [(BEGIN, 5), (BEGIN, 2), (TELL, 0, 1, 3), (BEGIN, 1), (MAY, 1, 0), (THROUGH, 1, 2), (TURNED, 1)]
        self.assertEqual(ask(*calls), [[-22], [0], [3], [-22], [6144], [1], [4096]])

    def test_what_is_given_back_is_a_list_of_whole_numbers(self):
        for calls in ([0, 4, 1, 0, 1, 7, 1, 1, 0, 7, 2, 0, 1, 3, 4, 1, 0, 0, 0, 1, 2, 3, 0, 0, 7], ONE_OF_EACH):
            answered = answers(calls)
            self.assertIs(list, answered.__class__)
            self.assertEqual({int}, {number.__class__ for number in answered})

    def test_the_list_handed_in_stays_as_it_is(self):
        for calls in (ONE_OF_EACH, [0, 3, 1, 2, 0, 9, 3, 4, 2, 0, 2, 4, 0, 7], [0, 4, 4, 3], [0, 2, 1, 0, 1, 0, 4]):
            before = list(calls)
            answers(calls)
            self.assertEqual(calls, before)

    def test_the_list_handed_in_is_not_changed_for_a_while_either(self):
        class Fixed(list):
            def refuse(self, *given):
                raise AssertionError("the list is changed")

            append = extend = insert = pop = remove = reverse = sort = clear = refuse
            __setitem__ = __delitem__ = __iadd__ = __imul__ = refuse

        self.assertEqual(answers(Fixed(ONE_OF_EACH)), answers(ONE_OF_EACH))

    def test_each_time_is_as_if_for_the_first_time(self):
        lists = [
            [0, 3, 1, 0, 1, 0, 3, 4],
            [0, 3, 3, 4],
            [0, 4, 1, 3, 2, 5, 4, 3],
            [0, 1, 0, 2, 3],
            [0, 4, 3, 4],
            [0, 4, 1, 0, 1, 1, 5, 0, 3, 5, 3, 0],
            [0, 4, 5, 0, 1, 5, 3, 0],
            [0, 3, 6, 1, 1, 7, 1, 8, 0, 1, 1, 2],
            ONE_OF_EACH,
        ]
        alone = [answers(list(calls)) for calls in lists]
        for round_again in range(3):
            self.assertEqual([answers(calls) for calls in lists], alone)
            self.assertEqual([answers(calls) for calls in reversed(lists)], alone[::-1])

    def test_what_is_given_back_is_a_list_of_its_own(self):
        first = answers([0, 3, 4])
        kept = list(first)
        first[2:] = []
        self.assertEqual(answers([0, 3, 4]), kept)

    def test_drawn_calls(self):
        draw = random.Random(3)
        for number in range(60):
            n = draw.choice((2, 3, 3))
            calls = [(BEGIN, draw.choice((0, 1, 5))) for step in range(draw.randrange(2))] + [(BEGIN, n)]
            calls += [drawn_call(draw, n) for step in range(25)]
            self.assertEqual(ask(*calls), expected(calls), calls)

    def test_drawn_calls_with_four_spans(self):
        draw = random.Random(9)
        for number in range(6):
            calls = [(BEGIN, 4)]
            calls += [call for call in [drawn_call(draw, 4) for step in range(20)] if call[0] != BEGIN]
            calls += [(PICTURE,), (MANY,)]
            self.assertEqual(ask(*calls), expected(calls), calls)

    def test_three_hundred_calls(self):
        calls = [(BEGIN, 3)]
        for number in range(59):
            i, j = number % 3, (number + 1) % 3
            calls += [(TELL, i, j, ALL_WAYS - number), (FREE, 0, 2), (PICTURE,), (MAY, j, i), (LIES, i, 2, j, 4)]
        calls += [(MANY,), (PICTURE,), (THROUGH, 8191, 5), (TURNED, 5)]
        self.assertEqual(len(calls), 300)
        self.assertEqual(ask(*calls), expected(calls))
        self.assertEqual(answers(flat(calls)), answers(flat(calls)))


if __name__ == "__main__":
    unittest.main()

import itertools
import random
import unittest

from reference import ALL_WAYS, BEGIN, FREE, GREATEST_END, LEAST_END, LIES, MANY, PICTURE, TELL
from reference import ask, last, way

# Of the ways 0 to 12, spans a to b and c to d that lie so.
EACH_WAY = (
    (1, 2, 4, 6), (1, 4, 4, 6), (1, 5, 4, 6), (4, 5, 4, 7), (5, 6, 4, 7), (5, 7, 4, 7), (4, 7, 4, 7),
    (3, 7, 4, 7), (3, 8, 4, 7), (4, 8, 4, 7), (5, 8, 4, 7), (7, 8, 4, 7), (8, 9, 4, 7),
)

LOW, HIGH = LEAST_END, GREATEST_END

REFUSED = (
    (0, 0, 1, 2), (3, 3, 1, 2), (2, 1, 1, 2), (0, -1, 1, 2), (1, 2, 0, 0), (1, 2, 5, 5), (1, 2, 2, 1), (1, 2, 0, -1),
    (0, 0, 0, 0), (2, 1, 2, 1), (LOW, LOW, 1, 2), (HIGH, HIGH, 1, 2), (HIGH, LOW, 1, 2), (1, 2, LOW, LOW),
    (1, 2, HIGH, HIGH), (1, 2, HIGH, LOW), (HIGH, LOW, HIGH, LOW), (-1, -2, 1, 2), (1, 2, -1, -2), (-3, -3, -3, -2),
)


def answered_to(*given):
    return ask((BEGIN, 2), *[(LIES, *ends) for ends in given])[1:]


class Lies(unittest.TestCase):
    def test_all_thirteen_ways(self):
        self.assertEqual(answered_to(*EACH_WAY), [[k] for k in range(13)])

    def test_the_other_way_about(self):
        self.assertEqual(answered_to(*[(c, d, a, b) for a, b, c, d in EACH_WAY]), [[12 - k] for k in range(13)])

    def test_negative_numbers(self):
        below = [(a - 9, b - 9, c - 9, d - 9) for a, b, c, d in EACH_WAY]
        self.assertEqual(answered_to(*below), [[k] for k in range(13)])
        across = [(a - 5, b - 5, c - 5, d - 5) for a, b, c, d in EACH_WAY]
        self.assertEqual(answered_to(*across), [[k] for k in range(13)])

    def test_turned_about_nought(self):
        # With the greater numbers first, beginnings and ends change places.
        mirrored = answered_to(*[(-b, -a, -d, -c) for a, b, c, d in EACH_WAY])
        self.assertEqual(mirrored, [[k] for k in (12, 11, 10, 5, 4, 3, 6, 9, 8, 7, 2, 1, 0)])

    def test_the_ends_of_the_range(self):
        given = (
            (LOW, LOW + 1, HIGH - 1, HIGH), (LOW, 0, 0, HIGH), (LOW, 1, 0, HIGH), (LOW, 0, LOW, HIGH),
            (0, 1, LOW, HIGH), (0, HIGH, LOW, HIGH), (LOW, HIGH, LOW, HIGH), (LOW, HIGH, 0, HIGH),
            (LOW, HIGH, LOW + 1, HIGH - 1), (LOW, HIGH, LOW, HIGH - 1), (0, HIGH, LOW, 1), (0, HIGH, LOW, 0),
            (HIGH - 1, HIGH, LOW, LOW + 1),
        )
        self.assertEqual(answered_to(*given), [[k] for k in range(13)])

    def test_every_two_spans_of_few_numbers(self):
        spans = list(itertools.combinations(range(-3, 4), 2))
        for one in spans:
            answered = answered_to(*[one + other for other in spans])
            self.assertEqual(answered, [[way(one, other)] for other in spans])

    def test_drawn_spans(self):
        draw = random.Random(16)
        for number in range(20):
            ends = [draw.randrange(LOW, HIGH + 1) for step in range(5)] + [LOW, HIGH, 0]
            given = []
            for step in range(100):
                given.append(tuple(draw.choice(ends) for end in range(4)))
            answered = [[way((a, b), (c, d)) if a < b and c < d else -22] for a, b, c, d in given]
            self.assertEqual(answered_to(*given), answered)

    def test_refusals(self):
        for ends in REFUSED:
            self.assertEqual(answered_to(ends), [[-22]], ends)

    def test_it_does_not_rest_on_what_was_told(self):
        calls = [(LIES, *ends) for ends in EACH_WAY + REFUSED[:1]]
        for before in ([(BEGIN, 4)], [(BEGIN, 4), (TELL, 0, 1, 0)], [(BEGIN, 3), (TELL, 2, 0, 5), (FREE, 0, 1)]):
            self.assertEqual(ask(*before, *calls)[len(before):], [[k] for k in range(13)] + [[-22]])

    def test_asking_and_refusing_change_nothing(self):
        calls = [(BEGIN, 3), (TELL, 0, 1, 9), (TELL, 0, 2, 3), (TELL, 1, 2, 10)]
        after = [(TELL, 0, 1, ALL_WAYS), (TELL, 0, 2, ALL_WAYS), (TELL, 1, 2, ALL_WAYS), (MANY,), (PICTURE,)]
        for ends in REFUSED + EACH_WAY:
            self.assertEqual(ask(*calls, (LIES, *ends), *after)[5:], ask(*calls, *after)[4:])
            self.assertEqual(last(*calls, (LIES, *ends), (LIES, *ends)), answered_to(ends)[0])


if __name__ == "__main__":
    unittest.main()

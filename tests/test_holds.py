import itertools
import random
import unittest

from reference import ALL_WAYS, BEGIN, LIES, MANY, MAY, PICTURE, TELL, THROUGH
from reference import ask, bits, last, lists_that_fit, pairs, ways_of


def drawn_tells(draw, n, most):
    calls = []
    for i, j in pairs(n):
        i, j = draw.choice(((i, j), (j, i)))
        calls.append((TELL, i, j, bits(*draw.sample(range(13), draw.randrange(1, most + 1)))))
    return calls


def ends_of(picture):
    return list(zip(picture[1::2], picture[2::2]))


class Holds(unittest.TestCase):
    def test_any_spans_that_lie_as_they_may_are_alike_to_just_one_that_was_counted(self):
        # The ways of two spans are settled just by which ends come before which.
        draw = random.Random(17)
        for number in range(40):
            calls = [(BEGIN, 3)] + drawn_tells(draw, 3, 9)
            told = dict(zip(pairs(3), ask(*calls, *[(TELL, i, j, ALL_WAYS) for i, j in pairs(3)])[4:]))
            counted = lists_that_fit(3, {pair: ways_of(ways) for pair, (ways,) in told.items()})
            orders = {self.order_of(spans) for spans in counted}
            self.assertEqual([len(orders)], last(*calls, (MANY,)))
            spread = [tuple((4 * a - 9, 4 * b - 9) for a, b in spans) for spans in counted]
            self.assertEqual({self.order_of(spans) for spans in spread}, orders)

    def order_of(self, spans):
        ends = [end for span in spans for end in span]
        return tuple(one < other for one, other in itertools.permutations(ends, 2))

    def test_a_way_is_told_just_if_spans_that_all_lie_as_they_may_have_it(self):
        draw = random.Random(18)
        for number in range(25):
            n = draw.choice((2, 3, 4))
            calls = [(BEGIN, n)] + drawn_tells(draw, n, 8)
            i, j = draw.sample(range(n), 2)
            may = ways_of(last(*calls, (MAY, i, j))[0])
            for k in range(13):
                picture = last(*calls, (TELL, i, j, 1 << k), (PICTURE,))
                self.assertEqual(picture != [-6], k in may)
                if k in may:
                    spans = ends_of(picture)
                    self.assertEqual(last((BEGIN, 2), (LIES, *spans[i], *spans[j])), [k])

    def test_what_follows_by_one_behind_another_is_just_what_may_be(self):
        draw = random.Random(19)
        for number in range(200):
            first, second = draw.choice((
                (draw.randrange(8192), draw.randrange(8192)),
                (1 << draw.randrange(13), 1 << draw.randrange(13)),
                (bits(*draw.sample(range(13), 2)), bits(*draw.sample(range(13), 2))),
            ))
            x, y, z = draw.sample(range(3), 3)
            calls = [(BEGIN, 3), (TELL, x, y, first), (TELL, y, z, second)]
            may, follows = ask(*calls, (MAY, x, z), (THROUGH, first, second))[3:]
            self.assertEqual(may, follows)

    def test_none_is_told_just_if_there_are_none(self):
        draw = random.Random(20)
        seen = {True: 0, False: 0}
        for number in range(300):
            n = draw.choice((2, 3, 4, 4))
            calls = [(BEGIN, n)] + drawn_tells(draw, n, 4)
            if draw.random() < 0.1:
                calls.append((TELL, 0, n - 1, 0))
            may = [(MAY, i, j) for i, j in itertools.permutations(range(n), 2)]
            answered = ask(*calls, (MANY,), (PICTURE,), *may)[len(calls):]
            none = answered[0] == [0]
            seen[none] += 1
            self.assertEqual(answered[1] == [-6], none)
            self.assertEqual([answer == [0] for answer in answered[2:]], [none] * len(may))
        self.assertGreater(min(seen.values()), 50)

    def test_the_picture_lies_as_it_may(self):
        draw = random.Random(21)
        for number in range(100):
            n = draw.choice((2, 3, 4))
            calls = [(BEGIN, n)] + drawn_tells(draw, n, 8)
            picture = last(*calls, (PICTURE,))
            if picture == [-6]:
                continue
            spans = ends_of(picture)
            self.assertEqual(len(spans), n)
            self.assertEqual(sorted({end for span in spans for end in span}), list(range(max(picture[1:]) + 1)))
            for call, i, j, ways in calls[1:]:
                way = last((BEGIN, 2), (LIES, *spans[i], *spans[j]))[0]
                self.assertTrue(ways >> way & 1)

    def test_told_more_no_more_may_be(self):
        draw = random.Random(22)
        for number in range(15):
            n = draw.choice((2, 3, 4))
            looks = [(MANY,)] + [(MAY, i, j) for i, j in itertools.permutations(range(n), 2)]
            calls = [(BEGIN, n)] + looks
            for step in range(10):
                i, j = draw.sample(range(n), 2)
                calls += [(TELL, i, j, ALL_WAYS & ~bits(*draw.sample(range(13), 2)))] + looks
            answered = [answer[0] for answer in ask(*calls)]
            rows = [answered[at + 1:at + 1 + len(looks)] for at in range(0, len(answered), 1 + len(looks))]
            for before, after in zip(rows, rows[1:]):
                self.assertLessEqual(after[0], before[0])
                self.assertEqual([then & now for then, now in zip(before[1:], after[1:])], after[1:])


if __name__ == "__main__":
    unittest.main()

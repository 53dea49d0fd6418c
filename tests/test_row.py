"""row: the fewest transformers in a row and the first circuits in a row with as few."""

import random
import unittest

from tests.helper import drawing, found_row, ladder, right_circuits, rungs, singles, some_sign
from tubedesk.circuits import fewest, judge, row


def in_a_row(p):
    return all(after - before in (0, 1) for before, after in zip(p, p[1:]))


class Ordinary(unittest.TestCase):
    def test_one_tube(self):
        t = drawing("0,0 3,4")
        self.assertEqual(row(5, 1, t, [1]), [1, 0])
        self.assertEqual(row(4, 1, t, [1]), [-5])

    def test_one_transformer_is_enough(self):
        for count in range(1, 9):
            with self.subTest(count=count):
                t = rungs(range(1, count + 1))
                whole = count * (count + 1) // 2
                self.assertEqual(row(whole, 1, t, singles(count)), [1] + [0] * count)
                if count > 1:
                    self.assertEqual(row(whole - 1, 1, t, singles(count)), [2] + [0] * (count - 1) + [1])

    def test_each_tube_wants_its_own(self):
        for count in range(1, 9):
            with self.subTest(count=count):
                self.assertEqual(row(19, 1, rungs([10] * count), singles(count)), [count] + list(range(count)))

    def test_between(self):
        t = drawing("0,0 3,4 6,0 10,0", name="Open24h")
        self.assertEqual(row(14, 1, t, [1, 2, 4]), [1, 0, 0, 0])
        self.assertEqual(row(10, 1, t, [1, 2, 4]), [2, 0, 0, 1])
        self.assertEqual(row(9, 1, t, [1, 2, 4]), [2, 0, 1, 1])
        self.assertEqual(row(8, 1, t, [1, 2, 4]), [3, 0, 1, 2])

    def test_the_order_is_that_of_the_tubes(self):
        t = rungs([1, 9, 2])
        self.assertEqual(row(9, 1, t, [1, 2, 4]), [3, 0, 1, 2])
        self.assertEqual(row(9, 1, t, [1, 4, 2]), [2, 0, 0, 1])
        self.assertEqual(row(9, 1, t, [2, 1, 4]), [2, 0, 1, 1])

    def test_bound_is_a_fraction(self):
        t = rungs([3, 4])
        self.assertEqual(row(14, 2, t, [1, 2]), [1, 0, 0])
        self.assertEqual(row(13, 2, t, [1, 2]), [2, 0, 1])
        self.assertEqual(row(7, 2, t, [1, 2]), [-5])


class SeveralAsFew(unittest.TestCase):
    def check(self, lengths, c, wanted):
        t = rungs(lengths)
        s = singles(len(lengths))
        with self.subTest(lengths=lengths, c=c):
            self.assertEqual(row(c, 1, t, s), wanted)
            as_few = [p for p in right_circuits(c, 1, t, s) if in_a_row(p) and max(p) + 1 == wanted[0]]
            self.assertGreater(len(as_few), 1)
            self.assertEqual(list(min(as_few)), wanted[1:])

    def test_the_first_is_told(self):
        self.check((1, 1, 1), 2, [2, 0, 0, 1])
        self.check((1, 2, 1, 2), 4, [2, 0, 0, 0, 1])
        self.check((3, 2, 2, 1, 1), 6, [2, 0, 0, 1, 1, 1])
        self.check((6, 5, 4, 3, 2, 2, 1, 1), 11, [3, 0, 0, 1, 1, 1, 1, 2, 2])
        self.check((6, 5, 4, 3, 2, 2, 1, 1), 17, [2, 0, 0, 0, 1, 1, 1, 1, 1])
        self.check((1,) * 8, 3, [3, 0, 0, 0, 1, 1, 1, 2, 2])
        self.check((1,) * 7, 2, [4, 0, 0, 1, 1, 2, 2, 3])


class MoreThanAtWill(unittest.TestCase):
    def test_in_a_row_needs_more(self):
        for lengths, c, at_will, wanted in (
                ((7, 7, 3, 3), 10, [2, 0, 1, 0, 1], [3, 0, 1, 1, 2]),
                ((4, 1, 6, 9), 10, [2, 0, 1, 0, 1], [3, 0, 0, 1, 2]),
                ((2, 4, 6, 8), 10, [2, 0, 1, 1, 0], [3, 0, 0, 1, 2]),
                ((3, 3, 5, 5, 7, 7), 10, [3, 0, 1, 2, 2, 0, 1], [4, 0, 0, 1, 1, 2, 3]),
                ((1, 9, 1, 9, 1, 9, 1, 9), 9, [5, 0, 1, 0, 2, 0, 3, 0, 4], [8, 0, 1, 2, 3, 4, 5, 6, 7]),
                ((6, 5, 4, 3, 2, 2, 1, 1), 6, [4, 0, 1, 2, 3, 2, 3, 1, 3], [5, 0, 1, 2, 3, 3, 4, 4, 4])):
            with self.subTest(lengths=lengths, c=c):
                self.assertEqual(fewest(c, 1, rungs(lengths), singles(len(lengths))), at_will)
                self.assertEqual(row(c, 1, rungs(lengths), singles(len(lengths))), wanted)


class Slowly(unittest.TestCase):
    """Held against going through all circuits in a row."""

    def compare(self, c, d, t, s):
        answer = row(c, d, t, s)
        self.assertEqual(answer, found_row(c, d, t, s), (c, d, t, s))
        at_will = fewest(c, d, t, s)
        self.assertEqual(answer == [-5], at_will == [-5])
        if answer != [-5]:
            self.assertTrue(in_a_row(answer[1:]))
            self.assertEqual(judge(c, d, t, s, answer[1:]), answer[:1])
            self.assertGreaterEqual(answer[0], at_will[0])
        return answer[0]

    def test_whole_lengths_with_every_bound(self):
        rnd = random.Random(21)
        told = []
        for count in range(1, 9):
            lengths = [rnd.randint(1, 12) for place in range(count)]
            told += [self.compare(c, 1, rungs(lengths), singles(count)) for c in range(1, sum(lengths) + 2)]
        self.assertLessEqual({-5, 1, 2, 3, 4, 5, 6}, set(told))

    def test_roots_with_many_bounds(self):
        rnd = random.Random(22)
        for count in range(1, 9):
            t, s = some_sign(rnd, count)
            for c in range(2, 60, 3):
                self.compare(c, rnd.choice((1, 2, 3)), t, s)

    def test_a_greater_bound_needs_no_more(self):
        t = ladder([(1, 1), (5, 2), (2, 1), (4, 1), (3, 1), (3, 4), (3, 2), (5, 1)])
        told = [row(c, 7, t, singles(8))[0] for c in range(30, 230)]
        borne = [count for count in told if count != -5]
        self.assertEqual(told, [-5] * (len(told) - len(borne)) + sorted(borne, reverse=True))
        self.assertEqual(sorted(set(borne))[:5], [1, 2, 3, 4, 5])

"""least: the least bound with which so many transformers are enough."""

import random
import unittest

from tests.helper import drawing, ladder, least_told, rungs, singles, some_sign
from tubedesk.circuits import fewest, least

GREATEST = 2 ** 32 - 1


def leasts(d, lengths, most):
    """What least tells for k from 1 to most."""
    told = [least(k, d, rungs(lengths), singles(len(lengths))) for k in range(1, most + 1)]
    return [c for zero, c in told if zero == 0]


class Ordinary(unittest.TestCase):
    def test_one_tube(self):
        t = drawing("0,0 3,4")
        for k in (1, 2, 8, 9, GREATEST):
            self.assertEqual(least(k, 1, t, [1]), [0, 5])
        self.assertEqual(least(1, 7, t, [1]), [0, 35])
        self.assertEqual(least(1, GREATEST, t, [1]), [0, 5 * GREATEST])

    def test_one_root(self):
        t = drawing("0,0 1,1")
        self.assertEqual([least(1, d, t, [1])[1] for d in (1, 2, 5, 10, 100, 1000)], [2, 3, 8, 15, 142, 1415])
        self.assertEqual(least(1, GREATEST, t, [1]), [0, 6074000999])

    def test_several_tubes(self):
        self.assertEqual(leasts(1, (6, 5, 4, 3, 2, 2, 1, 1), 9), [24, 12, 8, 6, 6, 6, 6, 6, 6])
        self.assertEqual(leasts(1, (4, 1, 6, 9), 5), [20, 10, 9, 9, 9])
        self.assertEqual(leasts(3, (4, 1, 6, 9), 5), [60, 30, 27, 27, 27])
        self.assertEqual(leasts(1, (5, 5, 4, 4, 3, 3, 3, 3), 9), [30, 15, 10, 8, 7, 6, 6, 5, 5])

    def test_tubes_in_whatever_order(self):
        # In a row two transformers would ask for 14.
        self.assertEqual(least(2, 1, rungs([7, 7, 3, 3]), singles(4)), [0, 10])
        self.assertEqual(least(2, 1, rungs([3, 7, 3, 7]), singles(4)), [0, 10])

    def test_as_many_transformers_as_tubes_and_more(self):
        for count in range(1, 9):
            t = rungs(range(1, count + 1))
            for k in (count, count + 1, 8, 9, 255, 256, GREATEST - 1, GREATEST):
                with self.subTest(count=count, k=k):
                    self.assertEqual(least(k, 1, t, singles(count)), [0, count])
                    self.assertEqual(least(k, GREATEST, t, singles(count)), [0, count * GREATEST])

    def test_one_transformer(self):
        for count in range(1, 9):
            with self.subTest(count=count):
                self.assertEqual(least(1, 1, rungs([9] * count), singles(count)), [0, 9 * count])

    def test_pieces_of_no_tube_do_not_count(self):
        self.assertEqual(least(1, 1, rungs([1000, 3, 1000]), [2]), [0, 3])

    def test_the_least_there_is(self):
        self.assertEqual(least(1, 1, drawing("7,7 7,8"), [1]), [0, 1])
        self.assertEqual(least(8, 1, rungs([1] * 8), singles(8)), [0, 1])

    def test_c_however_great(self):
        t = rungs([4095] * 64)
        self.assertEqual(least(1, GREATEST, t, [2 ** 64 - 1]), [0, 64 * 4095 * GREATEST])
        self.assertEqual(least(1, 65536, t, [2 ** 64 - 1]), [0, 64 * 4095 * 65536])


class OneLess(unittest.TestCase):
    def check(self, k, d, t, s):
        zero, c = least(k, d, t, s)
        self.assertEqual(zero, 0)
        if c < 2 ** 32:
            self.assertIn(fewest(c, d, t, s)[0], range(1, k + 1))
        if 1 < c <= 2 ** 32:
            self.assertNotIn(fewest(c - 1, d, t, s)[0], range(1, k + 1))

    def test_it_bears_them_and_one_less_does_not(self):
        t = ladder([(1, 1), (2, 1), (3, 1), (3, 2), (4, 1), (5, 1), (5, 2), (3, 4)])
        for d in (1, 2, 97, 99991, 2 ** 26):
            for k in range(1, 10):
                with self.subTest(k=k, d=d):
                    self.check(k, d, t, singles(8))
        self.check(GREATEST, 1, t, singles(8))

    def test_whole_lengths(self):
        rnd = random.Random(41)
        for count in range(1, 8):
            t = rungs([rnd.randint(1, 30) for place in range(count)])
            for k in range(1, count + 2):
                for d in (1, 3, 10 ** 6):
                    with self.subTest(count=count, k=k, d=d):
                        self.check(k, d, t, singles(count))


class Slowly(unittest.TestCase):
    """Held against going through all circuits that may be."""

    def compare(self, k, d, t, s):
        with self.subTest(k=k, d=d, s=s):
            self.assertEqual(least(k, d, t, s), least_told(k, d, t, s))

    def test_1_to_8_tubes(self):
        rnd = random.Random(42)
        for count in range(1, 9):
            t, s = some_sign(rnd, count)
            for k in range(1, count + 2):
                self.compare(k, rnd.choice((1, 2, 3, 1000)), t, s)
            self.compare(rnd.randint(1, count), rnd.randint(2 ** 20, GREATEST), t, s)
            self.compare(GREATEST, GREATEST, t, s)

    def test_long_tubes_of_whole_lengths(self):
        rnd = random.Random(43)
        for count in (3, 5, 7):
            t = rungs([rnd.randint(1, 4095) for place in range(count)])
            for k in range(1, count + 1):
                self.compare(k, 1, t, singles(count))

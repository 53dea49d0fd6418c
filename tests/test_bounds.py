"""Lengths held against bounds, to a hair."""

import unittest
from fractions import Fraction
from math import isqrt

from tests.helper import (bears, drawing, found_fewest, found_row, ladder, least_told, pieces_of, rungs, singles,
                          squares_of)
from tubedesk.circuits import fewest, judge, least, row

TOP = 2 ** 32 - 1
KIND_STEPS = ((1, 1), (2, 1), (3, 1), (3, 2), (4, 1), (5, 1), (5, 2), (5, 3), (6, 1), (5, 4))
D = 650011


def near_fractions(squares):
    """Fractions c / d nearer and nearer to the length of the squares' roots, as far as c and d may go."""
    length = Fraction(sum(isqrt(n << 800) for n in squares), 1 << 400)
    before, last, rest = (0, 1), (1, 0), length
    found = []
    while True:
        whole = rest.numerator // rest.denominator
        before, last = last, (whole * last[0] + before[0], whole * last[1] + before[1])
        if max(last) > TOP:
            return found
        found.append(last)
        rest = 1 / (rest - whole)


class Bounds(unittest.TestCase):
    def check(self, t, chosen, c, d, borne):
        with self.subTest(chosen=chosen, c=c, d=d):
            self.assertEqual(judge(c, d, t, [chosen], [0]), [1] if borne else [-9, 0])
            self.assertEqual(fewest(c, d, t, [chosen]), [1, 0] if borne else [-5])
            self.assertEqual(row(c, d, t, [chosen]), [1, 0] if borne else [-5])
            self.assertEqual(least(1, d, t, [chosen])[1] <= c, borne)


class WholeLengths(Bounds):
    def test_just_the_bound(self):
        t = drawing("0,0 3,4 8,16")
        self.check(t, 3, 18, 1, True)
        self.check(t, 3, 36, 2, True)
        self.check(t, 3, 17, 1, False)
        self.check(t, 3, 35, 2, False)
        self.check(t, 3, 37, 2, True)

    def test_great_bounds(self):
        t = rungs([3, 5])
        self.check(t, 1, TOP, TOP // 3, True)
        self.check(t, 1, TOP, TOP // 3 + 1, False)
        self.check(t, 2, TOP, TOP // 5, True)
        self.check(t, 2, TOP - 1, TOP // 5, False)
        self.check(t, 1, TOP, TOP, False)
        self.check(t, 1, TOP, 1, True)
        self.check(t, 1, 1, TOP, False)
        self.check(rungs([1]), 1, TOP, TOP, True)
        self.check(rungs([1]), 1, TOP - 1, TOP, False)

    def test_64_pieces(self):
        t = rungs([4095] * 63 + [4094])
        self.check(t, 2 ** 64 - 1, 64 * 4095 - 1, 1, True)
        self.check(t, 2 ** 64 - 1, 64 * 4095 - 2, 1, False)


class OneRoot(Bounds):
    def test_root_2_between_its_nearest_fractions(self):
        t = drawing("0,0 1,1")
        # 1855077841 ** 2 is 2 * 1311738121 ** 2 - 1; 768398401 ** 2 is 2 * 543339720 ** 2 + 1.
        self.check(t, 1, 1855077841, 1311738121, False)
        self.check(t, 1, 768398401, 543339720, True)
        self.check(t, 1, 1, 1, False)
        self.check(t, 1, 2, 1, True)

    def test_root_2_many_times(self):
        t = drawing("0,0 1,1 3,3 6,6 10,10")
        # 47321 ** 2 is 2 * 33461 ** 2 - 1; 114243 ** 2 is 2 * 80782 ** 2 + 1.
        self.check(t, 15, 10 * 47321, 33461, False)
        self.check(t, 15, 10 * 114243, 80782, True)
        self.check(t, 15, 10 * 114243 - 1, 80782, False)
        self.check(t, 15, 14, 1, False)
        self.check(t, 15, 15, 1, True)

    def test_longest_piece(self):
        t = drawing("0,0 4095,4095")
        self.check(t, 1, 5791, 1, False)
        self.check(t, 1, 5792, 1, True)

    def test_with_whole_lengths_beside_it(self):
        t = drawing("0,0 1,1", "0,5 7,5")
        self.check(t, 3, 7, 1, False)
        self.check(t, 3, 6, 1, False)
        self.check(t, 3, 8, 1, False)
        self.check(t, 3, 9, 1, True)
        self.check(t, 3, 768398401 + 7 * 543339720 - 1, 543339720, False)


class SeveralRoots(Bounds):
    def test_between_the_nearest_fractions(self):
        for extents in (((1, 1), (2, 1)), ((1, 1), (2, 1), (3, 1), (3, 2)), ((1, 1), (3, 4), (4, 2), (5, 5)),
                        KIND_STEPS, KIND_STEPS + ((3, 4), (9, 0)), ((4095, 1), (4094, 1), (4093, 2)),
                        ((1, 2), (2, 1), (2, 4), (1, 1), (1, 1), (7, 7))):
            t = ladder(extents)
            everything = 2 ** len(extents) - 1
            squares = squares_of(pieces_of(t), everything)
            found = near_fractions(squares)
            self.assertGreater(len(found), 3)
            # The fractions near a number lie below and above it by turns.
            for place, (c, d) in enumerate(found):
                self.check(t, everything, c, d, place % 2 == 1)
                self.assertEqual(bears(squares, c, d), place % 2 == 1)
                self.assertEqual(least(1, d, t, [everything]), [0, c if place % 2 == 1 else c + 1])

    def test_ten_kinds_nearer_than_floats_or_long_decimals_tell(self):
        # d times the length is above c by less than 2 ** -76, or below it by as little.
        for factors, c, borne in (
                ((508, 82, 423, 224, 113, 23, 181, 63, 61, 54), 3698000595, False),
                ((503, 282, 73, 411, 282, 30, 21, 36, 17, 204), 3967005331, False),
                ((599, 98, 215, 380, 43, 221, 46, 108, 37, 10), 3631597458, True),
                ((466, 207, 168, 95, 15, 71, 129, 129, 101, 149), 3532718888, True)):
            t = ladder([(factor * dx, factor * dy) for factor, (dx, dy) in zip(factors, KIND_STEPS)])
            self.check(t, 1023, c, D, borne)
            self.check(t, 1023, c + 1, D, True)
            self.check(t, 1023, c - 1, D, False)
            self.assertEqual(least(1, D, t, [1023]), [0, c if borne else c + 1])
            self.assertEqual(least(1, D, t, singles(7) + [7 << 7]), [0, c if borne else c + 1])

    def test_tubes_of_one_transformer_are_added_up(self):
        factors = (599, 98, 215, 380, 43, 221, 46, 108, 37, 10)
        t = ladder([(factor * dx, factor * dy) for factor, (dx, dy) in zip(factors, KIND_STEPS)])
        self.assertEqual(judge(3631597458, D, t, [7, 56, 960], [0, 0, 0]), [1])
        self.assertEqual(judge(3631597457, D, t, [7, 56, 960], [0, 0, 0]), [-9, 2])
        self.assertEqual(judge(3631597457, D, t, [7, 56, 960], [0, 0, 1]), [2])
        for call in (fewest, row):
            self.assertEqual(call(3631597458, D, t, [7, 56, 960]), [1, 0, 0, 0])
            self.assertEqual(call(3631597457, D, t, [7, 56, 960]), [2, 0, 0, 1])


class Found(unittest.TestCase):
    """Where a hair decides which circuits are found."""

    def test_three_tubes(self):
        t = ladder([(1, 1), (2, 1), (1, 0)])
        found = near_fractions([2, 5])
        self.assertGreater(max(found[-1]), 2 ** 30)
        for place, (c, d) in enumerate(found[2:]):
            with self.subTest(c=c, d=d):
                borne = place % 2 == 1
                self.assertEqual(fewest(c, d, t, singles(3)), [2, 0, 0, 1] if borne else [2, 0, 1, 0])
                self.assertEqual(row(c, d, t, singles(3)), [2, 0, 0, 1] if borne else [2, 0, 1, 1])

    def test_three_tubes_at_the_least_bound(self):
        t = ladder([(1, 1), (2, 1), (1, 0)])
        # On two transformers the tubes of root 2 and of 1 hang together; root 5 is shorter.
        for k, squares in ((1, [2, 5, 1]), (2, [2, 1]), (3, [5])):
            for place, (c, d) in enumerate(near_fractions(squares)[2:]):
                with self.subTest(k=k, c=c, d=d):
                    self.assertEqual(least(k, d, t, singles(3)), [0, c if place % 2 == 1 else c + 1])

    def test_whole_lengths_that_are_just_the_bound(self):
        t = rungs([3, 5, 4])
        for d in (1, 7, 357913941):
            for call in (fewest, row):
                with self.subTest(call=call, d=d):
                    self.assertEqual(call(12 * d, d, t, singles(3)), [1, 0, 0, 0])
                    self.assertEqual(call(12 * d - 1, d, t, singles(3))[0], 2)
                    self.assertEqual(call(8 * d, d, t, singles(3)), [2, 0, 0, 1])
                    self.assertEqual(call(5 * d, d, t, singles(3)), [3, 0, 1, 2])
                    self.assertEqual(call(5 * d - 1, d, t, singles(3)), [-5])
            with self.subTest(d=d):
                self.assertEqual([least(k, d, t, singles(3)) for k in (1, 2, 3)], [[0, 12 * d], [0, 7 * d], [0, 5 * d]])
                self.assertEqual(fewest(8 * d - 1, d, t, singles(3)), [2, 0, 1, 0])
                self.assertEqual(row(9 * d, d, rungs([5, 5, 4]), singles(3)), [2, 0, 1, 1])
                self.assertEqual(row(9 * d - 1, d, rungs([5, 5, 4]), singles(3)), [3, 0, 1, 2])

    def test_eight_tubes_of_ten_kinds(self):
        t = ladder(KIND_STEPS)
        s = singles(7) + [7 << 7]
        for choice in (0b11, 0b1010101, 0b10000001, 0b11110000, 0b111100, 0b11111111, 0b1000000):
            chosen = sum(tube for i, tube in enumerate(s) if choice >> i & 1)
            for c, d in near_fractions(squares_of(pieces_of(t), chosen))[-2:]:
                with self.subTest(choice=choice, c=c, d=d):
                    self.assertEqual(fewest(c, d, t, s), found_fewest(c, d, t, s))
                    self.assertEqual(row(c, d, t, s), found_row(c, d, t, s))
                    k = choice % 8 + 1
                    self.assertEqual(least(k, d, t, s), least_told(k, d, t, s))

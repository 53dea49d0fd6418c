"""-1, -4, -8, and which refusal comes first."""

import unittest

from tests.helper import as_bytes, drawing, ladder, rungs, singles
from tubedesk.circuits import fewest, judge, least, load, row

TOP = 2 ** 64 - 1
# Of these pieces the kinds are 2, 5, 10, 17, 26, 37, 65, 82, 101, 122 and 145.
ELEVEN = ladder([(n, 1) for n in (1, 2, 3, 4, 5, 6, 8, 9, 10, 11, 12)])
EIGHT_RUNGS = rungs([1] * 9)
GARBAGE = as_bytes("garbage\n")
LINE = drawing("0,0 1,0")
# Each call as one of a bound, a text and tubes alone; c is k of least.
ALL_CALLS = {
    "judge": lambda c, d, t, s: judge(c, d, t, s, [0] * len(s)),
    "fewest": fewest,
    "row": row,
    "load": lambda c, d, t, s: load(0, t, s, [0] * len(s)),
    "least": least,
}
# Those that look at lengths, and so at a bound.
LENGTH_CALLS = {name: call for name, call in ALL_CALLS.items() if name != "load"}


class Wrong1(unittest.TestCase):
    def test_how_many_tubes(self):
        for count, wanted in ((0, [-1]), (1, [1]), (7, [1]), (8, [1]), (9, [-1])):
            with self.subTest(count=count):
                self.assertEqual(judge(9, 1, EIGHT_RUNGS, [1 << i for i in range(count)], [0] * count), wanted)

    def test_bound_of_0(self):
        t = drawing("0,0 1,0")
        self.assertEqual(judge(1, 1, t, [1], [0]), [1])
        self.assertEqual(judge(0, 1, t, [1], [0]), [-1])
        self.assertEqual(judge(1, 0, t, [1], [0]), [-1])
        self.assertEqual(judge(0, 0, t, [1], [0]), [-1])

    def test_circuits_longer_and_shorter(self):
        t = rungs([1, 1])
        self.assertEqual(judge(9, 1, t, [1, 2], [0, 0]), [1])
        for p in ([], [0], [0, 0, 0], [0] * 16):
            with self.subTest(p=p):
                self.assertEqual(judge(9, 1, t, [1, 2], p), [-1])


class Wrong4(unittest.TestCase):
    def test_piece_that_there_is_not(self):
        t = rungs([1, 1, 1])
        self.assertEqual(judge(9, 1, t, [7], [0]), [1])
        for s in ([8], [15], [1, 8], [1 << 63], [TOP], [1, 2, 12]):
            with self.subTest(s=s):
                self.assertEqual(judge(9, 1, t, s, [0] * len(s)), [-4])

    def test_the_last_of_64_pieces(self):
        t = drawing([(x, 0) for x in range(65)])
        self.assertEqual(judge(64, 1, t, [TOP], [0]), [1])
        self.assertEqual(judge(1, 1, t, [1 << 63], [0]), [1])
        shorter = drawing([(x, 0) for x in range(64)])
        self.assertEqual(judge(64, 1, shorter, [TOP], [0]), [-4])
        self.assertEqual(judge(64, 1, shorter, [TOP >> 1], [0]), [1])

    def test_empty_tube(self):
        for s in ([0], [0, 1], [1, 0], [1, 0, 2]):
            with self.subTest(s=s):
                self.assertEqual(judge(9, 1, rungs([1, 1]), s, [0] * len(s)), [-4])

    def test_piece_of_a_tube_before(self):
        t = rungs([1, 1, 1, 1])
        self.assertEqual(judge(9, 1, t, [3, 4, 8], [0, 1, 2]), [3])
        for s in ([1, 1], [3, 2], [2, 3], [1, 2, 4, 9], [1, 2, 4, 2], [5, 10, 15]):
            with self.subTest(s=s):
                self.assertEqual(judge(9, 1, t, s, [0] * len(s)), [-4])


class Wrong8(unittest.TestCase):
    def test_10_kinds_and_11(self):
        self.assertEqual(judge(99, 1, ELEVEN, [2 ** 10 - 1], [0]), [1])
        self.assertEqual(judge(99, 1, ELEVEN, [2 ** 11 - 1], [0]), [-8])

    def test_kinds_of_all_tubes_together(self):
        self.assertEqual(judge(99, 1, ELEVEN, [31, 2 ** 11 - 32], [0, 1]), [-8])
        self.assertEqual(judge(99, 1, ELEVEN, [31, 2 ** 11 - 64], [0, 1]), [2])
        self.assertEqual(judge(99, 1, ELEVEN, [31, 2 ** 10 - 32, 2 ** 10], [0, 1, 2]), [-8])

    def test_only_pieces_of_tubes_count(self):
        self.assertEqual(judge(99, 1, ELEVEN, [2 ** 11 - 2], [0]), [1])

    def test_kind_1_does_not_count(self):
        t = ladder([(n, 1) for n in (1, 2, 3, 4, 5, 6, 8, 9, 10, 11)] + [(3, 4), (5, 0), (0, 7)])
        self.assertEqual(judge(99, 1, t, [2 ** 13 - 1], [0]), [1])

    def test_the_same_kind_counts_once(self):
        same = [(2, 2), (3, 3), (7, 1), (4, 2), (6, 3), (11, 2), (6, 2)]
        t = ladder([(n, 1) for n in (1, 2, 3, 4, 5, 6, 8, 9, 10, 11)] + same)
        self.assertEqual(judge(200, 1, t, [2 ** 17 - 1], [0]), [1])

    def test_kinds_with_great_factors(self):
        # Nine pieces: eight kinds other than 1, and kind 1.
        great = [(4095, 1), (4094, 1), (4093, 1), (4091, 1), (4095, 2), (4093, 2), (4091, 2), (4089, 2), (4001, 0)]
        # The piece (1, 1) is of the kind of (2503, 2503): 2,503 is prime.
        t = ladder(great + [(2503, 3), (2503, 2503), (1, 1)])
        self.assertEqual(judge(2 ** 32 - 1, 1, t, [2 ** 12 - 1], [0]), [1])
        t = ladder(great + [(2503, 3), (2503, 2503), (1, 1), (2503, 1)])
        self.assertEqual(judge(2 ** 32 - 1, 1, t, [2 ** 13 - 1], [0]), [-8])


class Order(unittest.TestCase):
    def test_2_ahead_of_all(self):
        self.assertEqual(judge(0, 0, [10] * 65537, [], [1]), [-2])
        self.assertEqual(judge(0, 0, drawing("0,0 1,0") + [10] * 65536, [0], [1]), [-2])

    def test_6_ahead_of_1_and_the_rest(self):
        self.assertEqual(judge(0, 1, GARBAGE, [1], [0]), [-6])
        self.assertEqual(judge(1, 0, GARBAGE, [1], [0]), [-6])
        self.assertEqual(judge(1, 1, GARBAGE, [], []), [-6])
        self.assertEqual(judge(1, 1, GARBAGE, [1], []), [-6])
        self.assertEqual(judge(1, 1, GARBAGE, [0], [0]), [-6])
        self.assertEqual(judge(1, 1, GARBAGE, [1], [7]), [-6])

    def test_1_ahead_of_4(self):
        t = drawing("0,0 1,0")
        self.assertEqual(judge(0, 1, t, [0], [0]), [-1])
        self.assertEqual(judge(1, 0, t, [2], [0]), [-1])
        self.assertEqual(judge(1, 1, t, [1, 1], [0]), [-1])
        self.assertEqual(judge(1, 1, t, [0] * 9, [0] * 9), [-1])

    def test_1_ahead_of_8_and_9(self):
        self.assertEqual(judge(1, 1, ELEVEN, [2 ** 11 - 1], [0, 0]), [-1])
        self.assertEqual(judge(0, 1, ELEVEN, [2 ** 11 - 1], [0]), [-1])
        self.assertEqual(judge(0, 1, drawing("0,0 1,0"), [1], [1]), [-1])

    def test_4_ahead_of_8_and_9(self):
        self.assertEqual(judge(1, 1, ELEVEN, [2 ** 11 - 1, 1], [0, 0]), [-4])
        self.assertEqual(judge(1, 1, ELEVEN, [2 ** 11 - 1, 0], [0, 0]), [-4])
        self.assertEqual(judge(1, 1, ELEVEN, [2 ** 12 - 1], [0]), [-4])
        self.assertEqual(judge(1, 1, drawing("0,0 5,0"), [2], [1]), [-4])

    def test_8_ahead_of_9(self):
        self.assertEqual(judge(1, 1, ELEVEN, [2 ** 11 - 1], [0]), [-8])
        self.assertEqual(judge(99, 1, ELEVEN, [2 ** 11 - 1], [1]), [-8])
        self.assertEqual(judge(1, 1, ELEVEN, [2 ** 10 - 1], [1]), [-9, 0])


class EveryCall(unittest.TestCase):
    """What is refused in every call alike, or in all that look at lengths, and ahead of what else."""

    def refused(self, refusal, c, d, t, s, calls=ALL_CALLS):
        for name, call in calls.items():
            with self.subTest(call=name, c=c, d=d, t=t[:30], s=s):
                self.assertEqual(call(c, d, t, s), [refusal])

    def taken(self, c, d, t, s, calls=ALL_CALLS):
        for name, call in calls.items():
            with self.subTest(call=name, c=c, d=d, t=t[:30], s=s):
                self.assertGreaterEqual(call(c, d, t, s)[0], 0)

    def test_2(self):
        self.refused(-2, 1, 1, LINE + [10] * (65537 - len(LINE)), [1])
        self.refused(-2, 0, 0, [65] * 65537, [])
        self.refused(-2, 1, 1, [65] * 70000, [0])
        self.refused(-2, 1, 1, ELEVEN + [10] * 65536, [2 ** 11 - 1])

    def test_6(self):
        self.refused(-6, 1, 1, [65] * 65536, [1])
        self.refused(-6, 1, 1, LINE + [10] * (65536 - len(LINE)), [1])
        self.refused(-6, 1, 1, [], [1])
        self.refused(-6, 1, 1, LINE[:-1], [1])
        self.refused(-6, 1, 1, drawing("0,0 2,2", "0,2 2,0"), [1])
        self.refused(-6, 1, 1, drawing("0,0 4096,0"), [1])
        self.refused(-6, 0, 1, GARBAGE, [1])
        self.refused(-6, 1, 0, GARBAGE, [1])
        self.refused(-6, 1, 1, GARBAGE, [])
        self.refused(-6, 1, 1, GARBAGE, singles(9))
        self.refused(-6, 1, 1, GARBAGE, [0])

    def test_1_of_tubes(self):
        for count in range(1, 9):
            self.taken(9, 1, EIGHT_RUNGS, singles(count))
        self.refused(-1, 9, 1, EIGHT_RUNGS, [])
        self.refused(-1, 9, 1, EIGHT_RUNGS, singles(9))
        self.refused(-1, 9, 1, EIGHT_RUNGS, [TOP] * 16)
        self.refused(-1, 9, 1, ELEVEN, singles(9) + [0])

    def test_1_of_bounds(self):
        self.taken(1, 1, LINE, [1])
        self.refused(-1, 0, 1, LINE, [1], LENGTH_CALLS)
        self.refused(-1, 1, 0, LINE, [1], LENGTH_CALLS)
        self.refused(-1, 0, 0, LINE, [1], LENGTH_CALLS)
        self.refused(-1, 0, 2 ** 32 - 1, LINE, [0], LENGTH_CALLS)
        self.refused(-1, 2 ** 32 - 1, 0, LINE, [2], LENGTH_CALLS)
        self.refused(-1, 0, 1, ELEVEN, [2 ** 11 - 1], LENGTH_CALLS)
        self.refused(-1, 0, 1, drawing("0,0 5,0"), [1], LENGTH_CALLS)

    def test_4(self):
        for s in ([2], [TOP], [1, 2], [0], [1, 0], [0, 1], [1, 1], [1 << 63, 1]):
            self.refused(-4, 9, 1, LINE, s)
        for s in ([2, 3], [3, 4, 6], [1, 2, 4, 2], [8, 4, 2, 15]):
            self.refused(-4, 9, 1, rungs([1] * 4), s)
        for s in ([2 ** 11 - 1, 1], [2 ** 11 - 1, 0], [2 ** 12 - 1], [0, 2 ** 11 - 1]):
            self.refused(-4, 9, 1, ELEVEN, s)
        self.refused(-4, 1, 1, drawing("0,0 5,0"), [1, 1])

    def test_8(self):
        self.taken(99, 1, ELEVEN, [2 ** 10 - 1])
        self.taken(99, 1, ELEVEN, [31, 2 ** 11 - 64])
        for s in ([2 ** 11 - 1], [31, 2 ** 11 - 32], [31, 2 ** 10 - 32, 2 ** 10]):
            self.refused(-8, 99, 1, ELEVEN, s, LENGTH_CALLS)
            self.refused(-8, 1, 2 ** 32 - 1, ELEVEN, s, LENGTH_CALLS)
            self.taken(99, 1, ELEVEN, s, {"load": ALL_CALLS["load"]})


class None5(unittest.TestCase):
    def test_just_one_tube_alone_is_not_borne(self):
        for count in range(1, 9):
            for place in range(count):
                lengths = [1] * count
                lengths[place] = 9
                t = rungs(lengths)
                for call in (fewest, row):
                    with self.subTest(call=call, count=count, place=place):
                        self.assertEqual(call(8, 1, t, singles(count)), [-5])
                        self.assertGreater(call(9, 1, t, singles(count))[0], 0)

    def test_a_tube_of_several_pieces(self):
        t = rungs([3, 3, 3, 3])
        for call in (fewest, row):
            with self.subTest(call=call):
                self.assertEqual(call(8, 1, t, [1, 14]), [-5])
                self.assertEqual(call(9, 1, t, [1, 14]), [2, 0, 1])
                self.assertEqual(call(8, 1, t, [7, 8]), [-5])
                self.assertEqual(call(9, 1, t, [7, 8]), [2, 0, 1])

    def test_by_a_hair(self):
        # 1855077841 ** 2 is 2 * 1311738121 ** 2 - 1; 768398401 ** 2 is 2 * 543339720 ** 2 + 1.
        for place in range(3):
            steps = [(1, 0)] * 3
            steps[place] = (1, 1)
            for call in (fewest, row):
                with self.subTest(call=call, place=place):
                    self.assertEqual(call(1855077841, 1311738121, ladder(steps), singles(3)), [-5])
                    self.assertEqual(call(768398401, 543339720, ladder(steps), singles(3)), [3, 0, 1, 2])

    def test_all_else_goes_ahead(self):
        long = drawing("0,0 5,0")
        for call in (fewest, row):
            with self.subTest(call=call):
                self.assertEqual(call(1, 1, long, [1]), [-5])
                self.assertEqual(call(1, 1, long + [10] * 65536, [1]), [-2])
                self.assertEqual(call(1, 1, long + [10], [1]), [-6])
                self.assertEqual(call(1, 0, long, [1]), [-1])
                self.assertEqual(call(1, 1, long, [1, 2]), [-4])
                self.assertEqual(call(1, 1, ELEVEN, [2 ** 11 - 1]), [-8])
                self.assertEqual(call(1, 1, ELEVEN, [2 ** 10 - 1]), [-5])

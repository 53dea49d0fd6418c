"""load: the set of all pieces on a transformer."""

import random
import unittest

from tests.helper import as_bytes, drawing, ladder, loaded, rungs, singles
from tubedesk.circuits import load

GREATEST = 2 ** 32 - 1


class Ordinary(unittest.TestCase):
    def test_one_tube(self):
        t = drawing("0,0 3,4")
        self.assertEqual(load(0, t, [1], [0]), [0, 1])
        self.assertEqual(load(1, t, [1], [0]), [-4])
        self.assertEqual(load(GREATEST, t, [1], [0]), [-4])

    def test_several_tubes(self):
        t = drawing("0,0 3,4 6,0 10,0", "0,9 1,9 1,12")
        s = [1, 2 | 8, 4, 16]
        p = [0, 1, 0, 2]
        self.assertEqual(load(0, t, s, p), [0, 5])
        self.assertEqual(load(1, t, s, p), [0, 10])
        self.assertEqual(load(2, t, s, p), [0, 16])
        self.assertEqual(load(3, t, s, p), [-4])

    def test_all_tubes_on_one(self):
        for count in range(1, 9):
            with self.subTest(count=count):
                t = rungs([1] * 9)
                self.assertEqual(load(0, t, singles(count), [0] * count), [0, 2 ** count - 1])
                self.assertEqual(load(1, t, singles(count), [0] * count), [-4])

    def test_pieces_of_no_tube_are_on_none(self):
        self.assertEqual(load(0, rungs([1] * 5), [2, 8], [0, 0]), [0, 10])

    def test_each_tube_on_its_own(self):
        for k in range(8):
            self.assertEqual(load(k, rungs([1] * 8), singles(8), list(range(8))), [0, 1 << k])
        self.assertEqual(load(8, rungs([1] * 8), singles(8), list(range(8))), [-4])


class AnyNumbers(unittest.TestCase):
    def test_circuits_that_may_not_be(self):
        t = rungs([1] * 4)
        s = [1, 2, 4, 8]
        p = [7, 255, 7, 1]
        for k, wanted in ((7, [0, 5]), (255, [0, 2]), (1, [0, 8]), (0, [-4]), (2, [-4]), (256, [-4]), (263, [-4]),
                          (GREATEST, [-4]), (2 ** 31, [-4])):
            with self.subTest(k=k):
                self.assertEqual(load(k, t, s, p), wanted)

    def test_no_tube_on_the_first(self):
        self.assertEqual(load(0, rungs([1]), [1], [1]), [-4])
        self.assertEqual(load(1, rungs([1]), [1], [1]), [0, 1])

    def test_more_than_any_transformer_bears(self):
        t = rungs([4095] * 64)
        self.assertEqual(load(0, t, [2 ** 32 - 1, 2 ** 64 - 2 ** 32], [0, 0]), [0, 2 ** 64 - 1])


class Refused(unittest.TestCase):
    def test_circuits_longer_and_shorter(self):
        t = rungs([1, 1])
        for p in ([], [0], [0, 0, 0], [0] * 16):
            with self.subTest(p=p):
                self.assertEqual(load(0, t, [1, 2], p), [-1])
                self.assertEqual(load(0, t, [1, 1], p), [-1])
                self.assertEqual(load(9, t, [0, 4], p), [-1])
                self.assertEqual(load(0, as_bytes("garbage\n"), [1, 2], p), [-6])
                self.assertEqual(load(0, [10] * 65537, [1, 2], p), [-2])

    def test_wrong_tubes_wherever_they_hang(self):
        t = rungs([1, 1])
        for s in ([1, 0], [0, 1], [1, 4], [4, 1], [1, 1], [3, 2], [2, 3]):
            for k in (0, 1, 2):
                with self.subTest(s=s, k=k):
                    self.assertEqual(load(k, t, s, [0, 1]), [-4])

    def test_no_tube_on_it_comes_last(self):
        t = rungs([1, 1])
        self.assertEqual(load(5, t, [1, 2], [0, 1]), [-4])
        self.assertEqual(load(5, t, [1, 2], [0]), [-1])
        self.assertEqual(load(5, t, [], []), [-1])
        self.assertEqual(load(5, t[:-1], [1, 2], [0, 1]), [-6])
        self.assertEqual(load(5, t + [10] * 65536, [1, 2], [0, 1]), [-2])

    def test_many_kinds_are_not_refused(self):
        t = ladder([(n, 1) for n in range(1, 41)])
        self.assertEqual(load(0, t, [2 ** 40 - 1], [0]), [0, 2 ** 40 - 1])
        self.assertEqual(load(3, t, [2 ** 20 - 1, 2 ** 40 - 2 ** 20], [0, 3]), [0, 2 ** 40 - 2 ** 20])
        self.assertEqual(load(1, t, [2 ** 40 - 1], [0]), [-4])


class EachPieceOnOne(unittest.TestCase):
    def test_the_loads_of_all_numbers_together(self):
        rnd = random.Random(31)
        for attempt in range(100):
            count = rnd.randint(1, 8)
            s = singles(count)
            for piece in range(count, 20):
                place = rnd.randrange(count + 1)
                if place < count:
                    s[place] |= 1 << piece
            p = [rnd.choice((0, 1, 2, 3, 200, 255)) for tube in s]
            t = rungs([1] * 20)
            parts = []
            for k in (0, 1, 2, 3, 4, 199, 200, 201, 254, 255, 256, GREATEST):
                answer = load(k, t, s, p)
                self.assertEqual(answer[0], 0 if k in p else -4)
                parts += answer[1:]
            together = 0
            for part in parts:
                self.assertEqual(together & part, 0)
                together |= part
            self.assertEqual(together, sum(s))
            for k in set(p):
                self.assertEqual(load(k, t, s, p), loaded(k, t, s, p))

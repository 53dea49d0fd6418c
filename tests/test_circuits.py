"""judge: how many transformers, and -9 with the tube's number."""

import unittest

from tests.helper import drawing, rungs
from tubedesk.circuits import judge


class Right(unittest.TestCase):
    def test_one_stroke_one_tube(self):
        t = drawing("0,0 3,4")
        self.assertEqual(judge(5, 1, t, [1], [0]), [1])
        self.assertEqual(judge(4, 1, t, [1], [0]), [-9, 0])

    def test_one_stroke_several_tubes(self):
        t = drawing("0,0 3,4 6,0 10,0", name="Open24h")
        self.assertEqual(judge(14, 1, t, [1, 2, 4], [0, 0, 0]), [1])
        self.assertEqual(judge(10, 1, t, [1, 2, 4], [0, 0, 1]), [2])
        self.assertEqual(judge(10, 1, t, [1, 2, 4], [0, 1, 0]), [2])
        self.assertEqual(judge(5, 1, t, [1, 2, 4], [0, 1, 2]), [3])

    def test_several_strokes(self):
        t = drawing("0,0 3,4", "10,0 10,7 12,7", "20,20 32,25")
        self.assertEqual(judge(14, 1, t, [1 | 4, 8], [0, 1]), [2])
        self.assertEqual(judge(20, 1, t, [1 | 4, 8], [0, 0]), [1])
        self.assertEqual(judge(19, 1, t, [1 | 4, 8], [0, 0]), [-9, 1])
        self.assertEqual(judge(18, 1, t, [8, 1, 2], [0, 0, 1]), [2])

    def test_pieces_of_no_tube_do_not_count(self):
        self.assertEqual(judge(3, 1, rungs([1000, 3, 1000]), [2], [0]), [1])

    def test_pieces_are_numbered_stroke_by_stroke(self):
        t = drawing("0,0 1,0 3,0", "0,9 4,9 12,9")
        for i, length in enumerate((1, 2, 4, 8)):
            with self.subTest(piece=i):
                self.assertEqual(judge(length, 1, t, [1 << i], [0]), [1])
                self.assertEqual(judge(2 * length - 1, 2, t, [1 << i], [0]), [-9, 0])

    def test_a_tube_need_not_hang_together(self):
        t = drawing("0,0 5,0", "100,100 100,105", "200,0 205,0")
        self.assertEqual(judge(10, 1, t, [5, 2], [0, 1]), [2])

    def test_fewer_could_do_all_the_same(self):
        self.assertEqual(judge(99, 1, rungs([1, 1, 1]), [1, 2, 4], [0, 1, 2]), [3])

    def test_eight_tubes(self):
        t = rungs([1] * 8)
        s = [1 << i for i in range(8)]
        self.assertEqual(judge(1, 1, t, s, list(range(8))), [8])
        self.assertEqual(judge(2, 1, t, s, [0, 1, 2, 3, 3, 2, 1, 0]), [4])
        self.assertEqual(judge(2, 1, t, s, [0, 1, 2, 3, 3, 2, 1, 1]), [-9, 7])
        self.assertEqual(judge(8, 1, t, s, [0] * 8), [1])


class NumbersThatCannotBe(unittest.TestCase):
    def judged(self, p, c=99):
        return judge(c, 1, rungs([1] * len(p)), [1 << i for i in range(len(p))], p)

    def test_first_number(self):
        self.assertEqual(self.judged([0]), [1])
        self.assertEqual(self.judged([1]), [-9, 0])
        self.assertEqual(self.judged([255]), [-9, 0])
        self.assertEqual(self.judged([1, 0]), [-9, 0])
        self.assertEqual(self.judged([2, 9]), [-9, 0])

    def test_more_than_one_above_the_greatest(self):
        self.assertEqual(self.judged([0, 1]), [2])
        self.assertEqual(self.judged([0, 2]), [-9, 1])
        self.assertEqual(self.judged([0, 255]), [-9, 1])
        self.assertEqual(self.judged([0, 1, 0, 2]), [3])
        self.assertEqual(self.judged([0, 1, 0, 3]), [-9, 3])
        self.assertEqual(self.judged([0, 0, 1, 3, 2]), [-9, 3])
        self.assertEqual(self.judged([0, 1, 3, 9]), [-9, 2])
        self.assertEqual(self.judged([0, 1, 2, 0, 1, 3, 3, 4]), [5])
        self.assertEqual(self.judged([0, 1, 2, 0, 1, 3, 3, 5]), [-9, 7])

    def test_told_ahead_of_a_tube_that_is_not_borne(self):
        t = rungs([50, 1, 1, 1])
        s = [1, 2, 4, 8]
        self.assertEqual(judge(10, 1, t, s, [0, 0, 1, 1]), [-9, 0])
        self.assertEqual(judge(10, 1, t, s, [0, 0, 1, 3]), [-9, 3])
        self.assertEqual(judge(10, 1, t, s, [0, 2, 1, 1]), [-9, 1])
        self.assertEqual(judge(10, 1, t, s, [1, 0, 1, 1]), [-9, 0])


class TubesNotBorne(unittest.TestCase):
    def test_with_those_before_it_on_its_transformer(self):
        t = rungs([3, 3, 3])
        s = [1, 2, 4]
        self.assertEqual(judge(9, 1, t, s, [0, 0, 0]), [1])
        self.assertEqual(judge(8, 1, t, s, [0, 0, 0]), [-9, 2])
        self.assertEqual(judge(5, 1, t, s, [0, 0, 0]), [-9, 1])
        self.assertEqual(judge(2, 1, t, s, [0, 0, 0]), [-9, 0])
        self.assertEqual(judge(5, 1, t, s, [0, 1, 0]), [-9, 2])
        self.assertEqual(judge(5, 1, t, s, [0, 1, 1]), [-9, 2])
        self.assertEqual(judge(2, 1, t, s, [0, 1, 2]), [-9, 0])

    def test_the_first_such_tube_not_the_first_such_transformer(self):
        t = rungs([4, 4, 4, 4])
        s = [1, 2, 4, 8]
        self.assertEqual(judge(7, 1, t, s, [0, 1, 1, 0]), [-9, 2])
        self.assertEqual(judge(7, 1, t, s, [0, 1, 0, 1]), [-9, 2])
        self.assertEqual(judge(8, 1, t, s, [0, 1, 0, 1]), [2])

    def test_tubes_behind_it_do_not_count(self):
        t = rungs([1, 9, 1])
        self.assertEqual(judge(5, 1, t, [1, 4, 2], [0, 0, 0]), [-9, 2])
        self.assertEqual(judge(5, 1, t, [1, 2, 4], [0, 0, 0]), [-9, 1])
        self.assertEqual(judge(5, 1, t, [1, 2, 4], [0, 1, 0]), [-9, 1])
        self.assertEqual(judge(5, 1, t, [2, 1, 4], [0, 1, 1]), [-9, 0])

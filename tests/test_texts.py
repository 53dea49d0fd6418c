"""Which texts are a drawing's: -2 and -6."""

import unittest

from tests.helper import as_bytes, drawing, share_badly
from tubedesk.circuits import judge

FAR = 4294967295


def answer(t):
    return judge(FAR, 1, t, [1], [0])


class Texts(unittest.TestCase):
    def right(self, t):
        self.assertEqual(answer(t), [1])

    def wrong(self, t):
        self.assertEqual(answer(t), [-6])

    def right_words(self, *words):
        for word in words:
            with self.subTest(text=word):
                self.right(as_bytes(word))

    def wrong_words(self, *words):
        for word in words:
            with self.subTest(text=word):
                self.wrong(as_bytes(word))


class TooLong(Texts):
    def test_65536_bytes_are_not_too_many(self):
        self.wrong([65] * 65536)
        self.wrong([10] * 65536)
        self.wrong(as_bytes("sign A\nstroke 0,0 1,0\n") + [32] * (65536 - 22))

    def test_65537_bytes_are_too_many(self):
        self.assertEqual(answer([65] * 65537), [-2])
        self.assertEqual(answer(drawing("0,0 1,0") + [10] * (65536 - 22)), [-6])
        self.assertEqual(answer(drawing("0,0 1,0") + [10] * (65537 - 22)), [-2])


class Kind1(Texts):
    def test_no_bytes_and_no_stroke(self):
        self.wrong_words("", "\n", "\n\n", "sign A", "sign A\n", "stroke 0,0 1,0\n", "sign A\n\n")

    def test_byte_10_missing(self):
        self.right_words("sign A\nstroke 0,0 1,0\n", "sign A\nstroke 0,0 1,0\nstroke 5,5 6,6\n")
        self.wrong_words("sign A\nstroke 0,0 1,0", "sign A stroke 0,0 1,0\n", "sign A\nstroke 0,0 1,0\nx",
                         "sign A\nstroke 0,0 1,0\n ", "sign A\nstroke 0,0 1,0\nstroke 5,5 6,6",
                         "sign A\nstroke 0,0 1,0 stroke 5,5 6,6\n")

    def test_every_line_counts(self):
        self.wrong_words("sign A\nstroke 0,0 1,0\n\n", "\nsign A\nstroke 0,0 1,0\n", "sign A\n\nstroke 0,0 1,0\n",
                         "sign A\nsign A\nstroke 0,0 1,0\n", "sign A\nstroke 0,0 1,0\nsign A\n",
                         "stroke 0,0 1,0\nsign A\n", "sign A\r\nstroke 0,0 1,0\r\n")

    def test_names(self):
        for name in ("A", "Z", "a", "z", "0", "9", "abcXYZ012345", "sign", "stroke"):
            with self.subTest(name=name):
                self.right(drawing("0,0 1,0", name=name))
        for name in ("", "abcXYZ0123456", "A B", "A-", "_", ".", "\u00e9", "A,A", "A\t", "\x00", " A", "A "):
            with self.subTest(name=name):
                self.wrong(drawing("0,0 1,0", name=name))

    def test_each_byte_as_a_name(self):
        letters = "ABCDEFGHIJKLMNOPQRSTUVWXYZabcdefghijklmnopqrstuvwxyz0123456789"
        for byte in range(256):
            t = as_bytes("sign ") + [byte] + as_bytes("\nstroke 0,0 1,0\n")
            with self.subTest(byte=byte):
                self.assertEqual(answer(t), [1] if byte in as_bytes(letters) else [-6])

    def test_each_byte_as_a_coordinate(self):
        for byte in range(256):
            t = as_bytes("sign A\nstroke 0,1 ") + [byte] + as_bytes(",0\n")
            with self.subTest(byte=byte):
                self.assertEqual(answer(t), [1] if byte in as_bytes("0123456789") else [-6])

    def test_first_words(self):
        self.wrong_words("Sign A\nstroke 0,0 1,0\n", "signA\nstroke 0,0 1,0\n", "sign\nstroke 0,0 1,0\n",
                         "sig A\nstroke 0,0 1,0\n", "signs A\nstroke 0,0 1,0\n", "sign A\nStroke 0,0 1,0\n",
                         "sign A\nstrokes 0,0 1,0\n", "sign A\nstrok 0,0 1,0\n", "sign A\nstroke0,0 1,0\n",
                         "sign A\n0,0 1,0\n")

    def test_blanks(self):
        self.wrong_words(" sign A\nstroke 0,0 1,0\n", "sign A \nstroke 0,0 1,0\n", "sign  A\nstroke 0,0 1,0\n",
                         "sign\tA\nstroke 0,0 1,0\n", "sign A\n stroke 0,0 1,0\n", "sign A\nstroke 0,0 1,0 \n",
                         "sign A\nstroke  0,0 1,0\n", "sign A\nstroke 0,0  1,0\n", "sign A\nstroke 0,0\t1,0\n")

    def test_points(self):
        for points in ("0,0 1,", "0,0 ,1", "0,0 ,", "0,0 1", "0,0 1,0,0", "0,0 1,,0", "0,0 1;0", "0,0 1 ,0", "0,0 -1,0",
                       "0,0 +1,0", "0,0 1.0,0", "0,0 a,0", "0,0 1_0,0", "0,0 (1,0)", "0,0,1,0", "1,0 0,0,"):
            with self.subTest(points=points):
                self.wrong(drawing(points))

    def test_needless_zeros(self):
        self.right(drawing("0,0 10,100"))
        for points in ("00,0 1,0", "0,00 1,0", "0,0 01,0", "0,0 1,007", "0,0 0000000001,0"):
            with self.subTest(points=points):
                self.wrong(drawing(points))

    def test_2_to_65_points(self):
        self.right(drawing("0,0 1,0"))
        self.wrong(drawing("0,0"))
        self.wrong(drawing(""))
        self.wrong(as_bytes("sign A\nstroke\n"))
        self.right(drawing([(x, 0) for x in range(65)]))
        self.wrong(drawing([(x, 0) for x in range(66)]))
        self.wrong(drawing("0,0 1,0", "5,5"))


class Kind2(Texts):
    def test_edge(self):
        self.right(drawing("0,0 4095,4095"))
        self.right(drawing("0,4095 4095,0"))
        for points in ("0,0 4096,0", "0,0 0,4096", "4096,0 0,0", "0,4096 0,0", "0,0 9999,0", "0,0 10000,0",
                       "0,0 4294967296,0", "0,0 1,0 4096,5"):
            with self.subTest(points=points):
                self.wrong(drawing(points))

    def test_numbers_of_many_digits(self):
        for count in (20, 400, 4301, 60000):
            with self.subTest(count=count):
                self.wrong(drawing("0,0 1" + "0" * count + ",0"))
                self.wrong(drawing("0,0 0," + "7" * count))


class Kind3(Texts):
    def test_point_that_is_the_one_before(self):
        self.wrong(drawing("0,0 0,0"))
        self.wrong(drawing("0,0 1,0 1,0"))
        self.wrong(drawing("0,0 0,0 1,0"))
        self.wrong(drawing("0,0 1,0", "5,5 6,6 6,6 7,7"))
        self.right(drawing("0,0 0,1"))
        self.right(drawing("0,0 1,0 0,1 0,0"))
        self.right(drawing("0,0 1,0", "1,0 2,0"))


class Kind4(Texts):
    def test_64_pieces_in_one_stroke_and_in_many(self):
        row = [(x, 0) for x in range(64)]
        self.right(drawing(row, "0,5 1,5"))
        self.wrong(drawing(row, "0,5 1,5 2,5"))
        self.wrong(drawing(row, "0,5 1,5", "0,6 1,6"))
        self.right(drawing(*["0,%d 1,%d" % (y, y) for y in range(64)]))
        self.wrong(drawing(*["0,%d 1,%d" % (y, y) for y in range(65)]))


class Kind5(Texts):
    def test_pieces_that_meet_badly(self):
        for strokes in (("0,0 2,2", "0,2 2,0"), ("0,0 1,3", "0,1 3,2"), ("0,0 4,0", "2,0 2,3"), ("2,0 2,3", "0,0 4,0"),
                        ("0,0 4,0", "2,3 2,0"), ("0,0 4,0", "2,0 6,0"), ("0,0 4,0", "1,0 2,0"), ("1,0 2,0", "0,0 4,0"),
                        ("0,0 4,0", "0,0 2,0"), ("0,0 1,2", "0,0 1,2"), ("0,0 1,2", "1,2 0,0"), ("0,0 0,9", "0,4 0,12"),
                        ("0,0 3,3 3,0 0,3",), ("0,0 1,0 0,0",), ("0,0 2,0 1,0",)):
            with self.subTest(strokes=strokes):
                self.wrong(drawing(*strokes))

    def test_pieces_that_do_not(self):
        for strokes in (("0,0 2,2", "0,2 1,2"), ("0,0 4,0", "4,0 8,0"), ("0,0 4,0", "0,0 0,4"), ("0,0 4,0", "5,0 8,0"),
                        ("0,0 4,0", "2,1 2,3"), ("0,0 4,4", "1,0 5,4"), ("0,0 4,0 4,4 0,4 0,0",), ("0,0 4,0", "4,0 2,1"),
                        ("0,0 0,4", "0,5 0,9"), ("0,0 2,2", "3,3 4,4"), ("0,0 2,2", "3,2 4,0")):
            with self.subTest(strokes=strokes):
                self.right(drawing(*strokes))

    def test_by_a_hair(self):
        self.right(drawing("0,0 4095,4094", "4094,4093 4095,4093"))
        self.wrong(drawing("0,0 4094,4092", "2047,2046 4095,0"))
        self.right(drawing("0,0 4095,4092", "2047,2045 4095,0"))
        self.wrong(drawing("0,0 4095,4092", "2047,2046 4095,0"))

    def test_with_a_piece_before_it_of_another_stroke(self):
        far = ["%d,100 %d,101" % (x, x) for x in range(20)]
        self.wrong(drawing("0,0 2,2", *far, "0,2 2,0"))
        self.right(drawing("0,0 2,2", *far, "3,2 5,0"))

    def test_every_two_pieces_of_a_small_grid(self):
        points = [(x, y) for x in range(4) for y in range(3)]
        pieces = [(a, b) for a in points for b in points if a != b]
        for one in [piece for piece in pieces if piece[0] < piece[1]]:
            for other in pieces:
                wanted = [-6] if share_badly(one, other) else [1]
                if answer(drawing(one, other)) != wanted:
                    self.fail("%r %r: %r asked for" % (one, other, wanted))


class Kind6(Texts):
    ROUND = ["9,9 %d,%d" % point for point in
             ((18, 9), (18, 18), (9, 18), (0, 18), (0, 9), (0, 0), (9, 0), (18, 0), (18, 10))]

    def test_ninth_piece_at_a_point(self):
        self.right(drawing(*self.ROUND[:8]))
        self.wrong(drawing(*self.ROUND))

    def test_first_and_second_ends_and_points_amidst_a_stroke(self):
        self.right(drawing("18,9 9,9 18,18", "9,18 9,9 0,18", "0,9 9,9 0,0", "9,0 9,9 18,0"))
        self.wrong(drawing("18,9 9,9 18,18", "9,18 9,9 0,18", "0,9 9,9 0,0", "9,0 9,9 18,0", "9,9 18,10"))
        self.wrong(drawing("18,9 9,9 18,18", "9,18 9,9 0,18", "0,9 9,9 0,0", "9,0 9,9 18,0", "18,10 9,9"))

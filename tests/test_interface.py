"""The edges of what is handed in, that it stays as it was, and that nothing is kept."""

import inspect
import time
import unittest

from tests.helper import drawing, ladder, rungs, singles
from tubedesk.circuits import fewest, judge, least, load, row

TOP = 2 ** 64 - 1
GREATEST = 2 ** 32 - 1
BENT = drawing("0,0 3,4 6,0")
ROW = drawing([(x, 0) for x in range(65)])
# 64 pieces of ten kinds other than 1, the last ones long.
TEN_KINDS = ladder([(n % 5 + 1, n % 4 + 1) for n in range(54)]
                   + [(n * 97, n * 89) for n in range(1, 4)] + [(355, 0)] * 7)
EIGHT_TUBES = [sum(1 << i for i in range(first, 64, 8)) for first in range(8)]
# Each call and what it answers.
CALLS = (
    (judge, (5, 1, BENT, [1, 2], [0, 1]), [2]),
    (judge, (5, 1, BENT, [2, 1], [0, 0]), [-9, 1]),
    (judge, (9, 2, drawing("0,0 1,1", "5,5 9,9"), [1, 2], [0, 2]), [-9, 1]),
    (judge, (1, 1, drawing("0,0 3,4 0,0"), [1], [0]), [-6]),
    (judge, (1, 1, [10] * 70000, [1], [0]), [-2]),
    (judge, (1, 1, rungs([1]), [2], [0]), [-4]),
    (judge, (0, 1, rungs([1]), [1], [0]), [-1]),
    (fewest, (5, 1, BENT, [1, 2]), [2, 0, 1]),
    (fewest, (10, 1, BENT, [2, 1]), [1, 0, 0]),
    (fewest, (4, 1, BENT, [2, 1]), [-5]),
    (fewest, (7, 1, rungs([3, 4, 2, 1, 4]), [1, 8, 2, 4, 16]), [2, 0, 1, 0, 1, 1]),
    (fewest, (1, 1, drawing("0,0 3,4 0,0"), [1]), [-6]),
    (fewest, (1, 1, [10] * 70000, [1]), [-2]),
    (fewest, (1, 1, rungs([1]), [2]), [-4]),
    (fewest, (1, 0, rungs([1]), [1]), [-1]),
    (row, (5, 1, BENT, [1, 2]), [2, 0, 1]),
    (row, (10, 1, BENT, [2, 1]), [1, 0, 0]),
    (row, (4, 1, BENT, [2, 1]), [-5]),
    (row, (7, 1, rungs([3, 4, 2, 1, 4]), [1, 8, 2, 4, 16]), [3, 0, 0, 1, 1, 2]),
    (row, (1, 1, drawing("0,0 3,4 0,0"), [1]), [-6]),
    (row, (1, 1, [10] * 70000, [1]), [-2]),
    (row, (1, 1, rungs([1]), [2]), [-4]),
    (row, (1, 0, rungs([1]), [1]), [-1]),
    (load, (0, BENT, [1, 2], [0, 0]), [0, 3]),
    (load, (200, BENT, [2, 1], [0, 200]), [0, 1]),
    (load, (1, BENT, [2, 1], [0, 200]), [-4]),
    (load, (0, drawing("0,0 3,4 0,0"), [1], [0]), [-6]),
    (load, (0, [10] * 70000, [1], [0]), [-2]),
    (load, (0, rungs([1]), [2], [0]), [-4]),
    (load, (0, rungs([1]), [1], [0, 0]), [-1]),
    (least, (1, 1, BENT, [1, 2]), [0, 10]),
    (least, (2, 3, BENT, [2, 1]), [0, 15]),
    (least, (2, 1, rungs([3, 4, 2, 1, 4]), [1, 8, 2, 4, 16]), [0, 7]),
    (least, (1, 1, drawing("0,0 3,4 0,0"), [1]), [-6]),
    (least, (1, 1, [10] * 70000, [1]), [-2]),
    (least, (1, 1, rungs([1]), [2]), [-4]),
    (least, (0, 1, rungs([1]), [1]), [-1]),
)


class Locked(list):
    """A list that refuses to be changed."""

    def refuse(self, *rest, **named):
        raise AssertionError("a list that was handed in is changed")

    append = clear = extend = insert = pop = remove = reverse = sort = refuse
    __setitem__ = __delitem__ = __iadd__ = __imul__ = refuse


class Edges(unittest.TestCase):
    def test_arguments_are_called_as_told(self):
        for call, names in ((judge, "cdtsp"), (fewest, "cdts"), (row, "cdts"), (load, "ktsp"), (least, "kdts")):
            self.assertEqual(list(inspect.signature(call).parameters), list(names))
        self.assertEqual(judge(p=[0], s=[1], t=rungs([2]), d=1, c=2), [1])
        self.assertEqual(fewest(s=[1], t=rungs([2]), d=1, c=2), [1, 0])
        self.assertEqual(row(s=[1], t=rungs([2]), d=1, c=2), [1, 0])
        self.assertEqual(load(p=[7], s=[1], t=rungs([2]), k=7), [0, 1])
        self.assertEqual(least(s=[1], t=rungs([2]), d=3, k=7), [0, 6])

    def test_70000_bytes(self):
        for t, wanted in (([0] * 70000, [-2]), ([255] * 70000, [-2]), (list(range(256)), [-6])):
            self.assertEqual(judge(1, 1, t, [1], [0]), wanted)
            self.assertEqual(fewest(1, 1, t, [1]), wanted)
            self.assertEqual(row(1, 1, t, [1]), wanted)
            self.assertEqual(load(0, t, [1], [0]), wanted)
            self.assertEqual(least(1, 1, t, [1]), wanted)

    def test_16_numbers(self):
        for t, s in ((rungs([1] * 16), singles(16)), (rungs([1]), [TOP] * 16)):
            self.assertEqual(judge(1, 1, t, s, [0] * 16), [-1])
            self.assertEqual(fewest(1, 1, t, s), [-1])
            self.assertEqual(row(1, 1, t, s), [-1])
            self.assertEqual(least(1, 1, t, s), [-1])
            self.assertEqual(load(0, t, s, [0] * 16), [-1])
            self.assertEqual(load(GREATEST, t, s, [255] * 16), [-1])
            self.assertEqual(load(0, t, s, []), [-1])
            self.assertEqual(load(0, t, [], [0] * 16), [-1])
            self.assertEqual(load(0, t, [1], [0] * 16), [-1])
        self.assertEqual(judge(1, 1, rungs([1]), [TOP] * 16, [255] * 16), [-1])
        self.assertEqual(judge(1, 1, rungs([1]), [TOP] * 16, []), [-1])
        self.assertEqual(judge(1, 1, rungs([1]), [], [255] * 16), [-1])

    def test_greatest_numbers(self):
        self.assertEqual(judge(GREATEST, GREATEST, ROW, [TOP], [0]), [-9, 0])
        self.assertEqual(judge(GREATEST, 1, ROW, [TOP], [255]), [-9, 0])
        self.assertEqual(judge(GREATEST, 1, ROW, [1, TOP - 1], [0, 255]), [-9, 1])
        self.assertEqual(judge(GREATEST, 1, ROW, [TOP - 1, 1], [0, 1]), [2])
        self.assertEqual(judge(GREATEST, 1, rungs([1]), [TOP], [0]), [-4])

    def test_greatest_numbers_where_circuits_are_found(self):
        for call in (fewest, row):
            with self.subTest(call=call):
                self.assertEqual(call(GREATEST, 1, ROW, [TOP]), [1, 0])
                self.assertEqual(call(64, 1, ROW, [TOP]), [1, 0])
                self.assertEqual(call(63, 1, ROW, [TOP]), [-5])
                self.assertEqual(call(63, 1, ROW, [TOP - 1, 1]), [2, 0, 1])
                self.assertEqual(call(GREATEST, GREATEST, ROW, [TOP]), [-5])
                self.assertEqual(call(GREATEST, GREATEST, ROW, [1 << 63, 1]), [2, 0, 1])
                self.assertEqual(call(GREATEST, 1, rungs([1]), [TOP]), [-4])

    def test_greatest_sets_of_load(self):
        self.assertEqual(load(0, ROW, [TOP], [0]), [0, TOP])
        self.assertEqual(load(255, ROW, [TOP], [255]), [0, TOP])
        self.assertEqual(load(GREATEST, ROW, [TOP], [255]), [-4])
        self.assertEqual(load(9, ROW, EIGHT_TUBES, [9] * 8), [0, TOP])
        self.assertEqual(load(9, ROW, [1 << 63, TOP >> 1], [9, 8]), [0, 1 << 63])
        self.assertEqual(load(0, rungs([1]), [TOP], [0]), [-4])

    def test_greatest_numbers_of_least(self):
        self.assertEqual(least(1, 1, ROW, [TOP]), [0, 64])
        self.assertEqual(least(GREATEST, 1, ROW, [TOP]), [0, 64])
        self.assertEqual(least(GREATEST, GREATEST, ROW, [TOP]), [0, 64 * GREATEST])
        self.assertEqual(least(GREATEST, GREATEST, rungs([4095] * 64), [TOP]), [0, 64 * 4095 * GREATEST])
        self.assertEqual(least(2, GREATEST, ROW, [TOP - 1, 1]), [0, 63 * GREATEST])
        self.assertEqual(least(GREATEST, GREATEST, rungs([1]), [TOP]), [-4])

    def test_eight_tubes_of_ten_kinds_in_a_few_seconds(self):
        start = time.monotonic()
        for d in (1, 650011, 2 ** 20):
            self.assertEqual(fewest(4000 * d, d, TEN_KINDS, EIGHT_TUBES), [1] + [0] * 8)
            self.assertEqual(fewest(1800 * d, d, TEN_KINDS, EIGHT_TUBES), [2, 0, 0, 0, 1, 1, 1, 0, 1])
            self.assertEqual(row(4000 * d, d, TEN_KINDS, EIGHT_TUBES), [1] + [0] * 8)
            self.assertEqual(row(1800 * d, d, TEN_KINDS, EIGHT_TUBES), [3, 0, 0, 0, 0, 1, 1, 1, 2])
            self.assertEqual(least(8, d, TEN_KINDS, EIGHT_TUBES), least(8, d, TEN_KINDS, EIGHT_TUBES[7:]))
            self.assertEqual(least(1, d, TEN_KINDS, EIGHT_TUBES), least(1, d, TEN_KINDS, [TOP]))
        self.assertLess(time.monotonic() - start, 12 * 3)

    def test_a_list_of_whole_numbers_is_given_back(self):
        for call, given, wanted in CALLS:
            answer = call(*given)
            self.assertIs(type(answer), list)
            self.assertTrue(all(type(number) is int for number in answer))


class NothingKept(unittest.TestCase):
    def test_what_is_handed_in_is_not_changed(self):
        for call, given, wanted in CALLS:
            held = [list(part) if isinstance(part, list) else part for part in given]
            locked = [Locked(part) if isinstance(part, list) else part for part in given]
            self.assertEqual(call(*given), wanted)
            self.assertEqual(list(given), held)
            self.assertEqual(call(*locked), wanted)
            self.assertEqual(locked, held)

    def test_a_second_call_answers_the_same(self):
        for calls in (CALLS, CALLS[::-1], CALLS + CALLS):
            for call, given, wanted in calls:
                self.assertEqual(call(*given), wanted)
                self.assertEqual(call(*given), wanted)

    def test_an_answer_that_is_changed_changes_no_later_one(self):
        for call, given, wanted in CALLS:
            answer = call(*given)
            answer.append(7)
            answer[0] = 99
            self.assertEqual(call(*given), wanted)

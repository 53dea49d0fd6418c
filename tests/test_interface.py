"""The edges of what is handed in, that it stays as it was, and that nothing is kept."""

import inspect
import unittest

from tests.helper import drawing, rungs
from tubedesk.circuits import judge

TOP = 2 ** 64 - 1
CALLS = (
    (5, 1, drawing("0,0 3,4 6,0"), [1, 2], [0, 1]),
    (5, 1, drawing("0,0 3,4 6,0"), [2, 1], [0, 0]),
    (9, 2, drawing("0,0 1,1", "5,5 9,9"), [1, 2], [0, 2]),
    (1, 1, drawing("0,0 3,4 0,0"), [1], [0]),
    (1, 1, [10] * 70000, [1], [0]),
    (1, 1, rungs([1]), [2], [0]),
    (0, 1, rungs([1]), [1], [0]),
)


class Locked(list):
    """A list that refuses to be changed."""

    def refuse(self, *rest, **named):
        raise AssertionError("a list that was handed in is changed")

    append = clear = extend = insert = pop = remove = reverse = sort = refuse
    __setitem__ = __delitem__ = __iadd__ = __imul__ = refuse


class Edges(unittest.TestCase):
    def test_arguments_are_called_as_told(self):
        self.assertEqual(list(inspect.signature(judge).parameters), ["c", "d", "t", "s", "p"])
        self.assertEqual(judge(p=[0], s=[1], t=rungs([2]), d=1, c=2), [1])

    def test_70000_bytes(self):
        self.assertEqual(judge(1, 1, [0] * 70000, [1], [0]), [-2])
        self.assertEqual(judge(1, 1, [255] * 70000, [1], [0]), [-2])
        self.assertEqual(judge(1, 1, list(range(256)), [1], [0]), [-6])

    def test_16_numbers(self):
        self.assertEqual(judge(1, 1, rungs([1] * 16), [1 << i for i in range(16)], [0] * 16), [-1])
        self.assertEqual(judge(1, 1, rungs([1]), [TOP] * 16, [255] * 16), [-1])
        self.assertEqual(judge(1, 1, rungs([1]), [TOP] * 16, []), [-1])
        self.assertEqual(judge(1, 1, rungs([1]), [], [255] * 16), [-1])

    def test_greatest_numbers(self):
        row = drawing([(x, 0) for x in range(65)])
        self.assertEqual(judge(2 ** 32 - 1, 2 ** 32 - 1, row, [TOP], [0]), [-9, 0])
        self.assertEqual(judge(2 ** 32 - 1, 1, row, [TOP], [255]), [-9, 0])
        self.assertEqual(judge(2 ** 32 - 1, 1, row, [1, TOP - 1], [0, 255]), [-9, 1])
        self.assertEqual(judge(2 ** 32 - 1, 1, row, [TOP - 1, 1], [0, 1]), [2])
        self.assertEqual(judge(2 ** 32 - 1, 1, rungs([1]), [TOP], [0]), [-4])

    def test_a_list_of_whole_numbers_is_given_back(self):
        for call in CALLS:
            answer = judge(*call)
            self.assertIs(type(answer), list)
            self.assertTrue(all(type(number) is int for number in answer))


class NothingKept(unittest.TestCase):
    def test_what_is_handed_in_is_not_changed(self):
        for c, d, t, s, p in CALLS:
            held = (list(t), list(s), list(p))
            wanted = judge(c, d, t, s, p)
            self.assertEqual((t, s, p), held)
            self.assertEqual(judge(c, d, Locked(t), Locked(s), Locked(p)), wanted)

    def test_a_second_call_answers_the_same(self):
        first = [judge(*call) for call in CALLS]
        self.assertEqual(first, [[2], [-9, 1], [-9, 1], [-6], [-2], [-4], [-1]])
        self.assertEqual([judge(*call) for call in reversed(CALLS)], first[::-1])
        self.assertEqual([judge(*call) for call in CALLS for again in (1, 2)], [a for a in first for again in (1, 2)])

    def test_an_answer_that_is_changed_changes_no_later_one(self):
        for call in CALLS:
            answer = judge(*call)
            held = list(answer)
            answer.append(7)
            self.assertEqual(judge(*call), held)

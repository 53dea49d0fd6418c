"""The document's promises over the five calls together, at many drawings."""

import random
import unittest

from tests.helper import right_circuits, some_sign
from tubedesk.circuits import fewest, judge, least, load, row


def signs():
    """Texts with their tubes, and a d for each."""
    rnd = random.Random(51)
    for attempt in range(16):
        t, s = some_sign(rnd, attempt % 8 + 1)
        yield t, s, rnd.choice((1, 2, 5, 1009))


def bounds(d, t, s):
    """Bounds from too little for any tube to enough for all: those told by least, one less, one more, and between."""
    found = {1, d, 3 * d}
    for k in range(1, len(s) + 1):
        c = least(k, d, t, s)[1]
        found |= {c - 1, c, c + 1, c + d // 2 + 1}
    return sorted(c for c in found if c > 0)


class Promises(unittest.TestCase):
    def each(self):
        for t, s, d in signs():
            for c in bounds(d, t, s):
                yield c, d, t, s

    def test_1_right_and_none_with_fewer(self):
        for c, d, t, s in self.each():
            right = right_circuits(c, d, t, s)
            for call in (fewest, row):
                answer = call(c, d, t, s)
                if answer != [-5]:
                    self.assertEqual(judge(c, d, t, s, answer[1:]), answer[:1])
                    self.assertIn(tuple(answer[1:]), right)
            if right:
                self.assertEqual(fewest(c, d, t, s)[0], min(max(p) + 1 for p in right))

    def test_2_none_only_if_some_tube_alone_is_too_long(self):
        for c, d, t, s in self.each():
            too_long = [-9, 0] in [judge(c, d, t, [tube], [0]) for tube in s]
            self.assertEqual(fewest(c, d, t, s) == [-5], too_long)
            self.assertEqual(row(c, d, t, s) == [-5], too_long)

    def test_3_in_a_row_is_never_fewer(self):
        more = 0
        for c, d, t, s in self.each():
            at_will = fewest(c, d, t, s)[0]
            in_a_row = row(c, d, t, s)[0]
            self.assertGreaterEqual(in_a_row, at_will)
            more += in_a_row > at_will
        self.assertGreater(more, 10)

    def test_4_with_a_greater_bound_no_more(self):
        for t, s, d in signs():
            for call in (fewest, row):
                counts = [call(c, d, t, s)[0] for c in bounds(d, t, s)]
                counts = [len(s) + 1 if count == -5 else count for count in counts]
                self.assertEqual(counts, sorted(counts, reverse=True))
                self.assertEqual(counts[-1], 1)

    def test_4_least_bears_them_and_one_less_does_not(self):
        for t, s, d in signs():
            for k in range(1, len(s) + 2):
                c = least(k, d, t, s)[1]
                with self.subTest(t=t, s=s, k=k, d=d):
                    self.assertIn(fewest(c, d, t, s)[0], range(1, k + 1))
                    if c > 1:
                        self.assertNotIn(fewest(c - 1, d, t, s)[0], range(1, k + 1))
                    self.assertLessEqual(least(k + 1, d, t, s)[1], c)

    def test_5_each_tube_on_one_transformer(self):
        for c, d, t, s in self.each():
            for call in (fewest, row):
                answer = call(c, d, t, s)
                if answer == [-5]:
                    continue
                p = answer[1:]
                self.assertEqual(len(p), len(s))
                sets = [load(k, t, s, p) for k in range(answer[0])]
                self.assertEqual(load(answer[0], t, s, p), [-4])
                self.assertEqual(sum(together for zero, together in sets), sum(s))
                for k, (zero, together) in enumerate(sets):
                    self.assertEqual(zero, 0)
                    self.assertEqual(together, sum(tube for tube, number in zip(s, p) if number == k))
                    self.assertEqual(judge(c, d, t, [together], [0]), [1])

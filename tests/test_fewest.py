"""fewest: the fewest transformers and the first circuits with as few."""

import random
import unittest

from tests.helper import drawing, found_fewest, ladder, right_circuits, rungs, singles, some_sign
from tubedesk.circuits import fewest, judge


def first_that_bears(lengths, c):
    """How many transformers there are if each tube goes to the first one that still bears it."""
    sums = []
    for length in lengths:
        place = next((i for i, total in enumerate(sums) if total + length <= c), len(sums))
        sums[place:place + 1] = [(sums + [0])[place] + length]
    return len(sums)


class Ordinary(unittest.TestCase):
    def test_one_tube(self):
        t = drawing("0,0 3,4")
        self.assertEqual(fewest(5, 1, t, [1]), [1, 0])
        self.assertEqual(fewest(4, 1, t, [1]), [-5])

    def test_one_transformer_is_enough(self):
        for count in range(1, 9):
            with self.subTest(count=count):
                t = rungs(range(1, count + 1))
                whole = count * (count + 1) // 2
                self.assertEqual(fewest(whole, 1, t, singles(count)), [1] + [0] * count)
                if count > 1:
                    self.assertEqual(fewest(whole - 1, 1, t, singles(count))[0], 2)

    def test_each_tube_wants_its_own(self):
        for count in range(1, 9):
            with self.subTest(count=count):
                self.assertEqual(fewest(19, 1, rungs([10] * count), singles(count)), [count] + list(range(count)))

    def test_between(self):
        t = drawing("0,0 3,4 6,0 10,0", name="Open24h")
        self.assertEqual(fewest(14, 1, t, [1, 2, 4]), [1, 0, 0, 0])
        self.assertEqual(fewest(10, 1, t, [1, 2, 4]), [2, 0, 0, 1])
        self.assertEqual(fewest(9, 1, t, [1, 2, 4]), [2, 0, 1, 0])
        self.assertEqual(fewest(8, 1, t, [1, 2, 4]), [3, 0, 1, 2])

    def test_tubes_of_several_pieces(self):
        t = drawing("0,0 3,4", "10,0 10,7 12,7", "20,20 32,25")
        self.assertEqual(fewest(27, 1, t, [1 | 4, 2, 8]), [1, 0, 0, 0])
        self.assertEqual(fewest(20, 1, t, [1 | 4, 2, 8]), [2, 0, 0, 1])
        self.assertEqual(fewest(20, 1, t, [1 | 2, 8, 4]), [2, 0, 1, 0])
        self.assertEqual(fewest(13, 1, t, [1 | 4, 2, 8]), [3, 0, 1, 2])

    def test_pieces_of_no_tube_do_not_count(self):
        self.assertEqual(fewest(3, 1, rungs([1000, 3, 1000]), [2]), [1, 0])

    def test_bound_is_a_fraction(self):
        t = rungs([3, 4])
        self.assertEqual(fewest(14, 2, t, [1, 2]), [1, 0, 0])
        self.assertEqual(fewest(13, 2, t, [1, 2]), [2, 0, 1])
        self.assertEqual(fewest(7, 2, t, [1, 2]), [-5])


class FirstThatBears(unittest.TestCase):
    def check(self, lengths, c, wanted):
        with self.subTest(lengths=lengths, c=c):
            self.assertEqual(fewest(c, 1, rungs(lengths), singles(len(lengths))), wanted)
            self.assertGreater(first_that_bears(lengths, c), wanted[0])

    def test_it_does_not_give_the_fewest(self):
        self.check((4, 1, 6, 9), 10, [2, 0, 1, 0, 1])
        self.check((2, 4, 6, 8), 10, [2, 0, 1, 1, 0])
        self.check((3, 3, 5, 5, 7, 7), 10, [3, 0, 1, 2, 2, 0, 1])
        self.check((1, 1, 1, 3, 3, 5, 5, 5), 8, [3, 0, 0, 0, 1, 2, 0, 1, 2])

    def test_nor_does_it_from_the_longest_down(self):
        self.check((4, 3, 3, 2, 2, 2), 8, [2, 0, 1, 1, 0, 0, 1])
        self.check((5, 4, 4, 3, 2, 2), 10, [2, 0, 1, 1, 0, 0, 1])
        self.check((5, 5, 4, 4, 3, 3, 3, 3), 15, [2, 0, 1, 0, 1, 0, 0, 1, 1])


class SeveralAsFew(unittest.TestCase):
    def check(self, lengths, c, wanted):
        t = rungs(lengths)
        s = singles(len(lengths))
        with self.subTest(lengths=lengths, c=c):
            self.assertEqual(fewest(c, 1, t, s), wanted)
            as_few = [p for p in right_circuits(c, 1, t, s) if max(p) + 1 == wanted[0]]
            self.assertGreater(len(as_few), 1)
            self.assertEqual(list(min(as_few)), wanted[1:])

    def test_the_first_is_told(self):
        self.check((1, 1, 1), 2, [2, 0, 0, 1])
        self.check((2, 1, 1), 3, [2, 0, 0, 1])
        self.check((1, 2, 1, 2), 4, [2, 0, 0, 0, 1])
        self.check((1, 1, 1, 1), 2, [2, 0, 0, 1, 1])
        self.check((3, 2, 2, 1, 1), 5, [2, 0, 0, 1, 1, 1])
        self.check((6, 5, 4, 3, 2, 2, 1, 1), 9, [3, 0, 1, 1, 0, 2, 2, 2, 2])
        self.check((1,) * 8, 3, [3, 0, 0, 0, 1, 1, 1, 2, 2])

    def test_as_few_goes_ahead_of_least_numbers(self):
        # [0, 0, 1, 2] is right and has lesser numbers, but more transformers.
        self.assertEqual(fewest(10, 1, rungs((4, 1, 6, 9)), singles(4)), [2, 0, 1, 0, 1])
        self.assertEqual(judge(10, 1, rungs((4, 1, 6, 9)), singles(4), [0, 0, 1, 2]), [3])


class Slowly(unittest.TestCase):
    """Held against going through all circuits that may be."""

    def compare(self, c, d, t, s):
        answer = fewest(c, d, t, s)
        self.assertEqual(answer, found_fewest(c, d, t, s), (c, d, t, s))
        if answer[0] > 0:
            self.assertEqual(judge(c, d, t, s, answer[1:]), answer[:1])
        return answer[0]

    def test_whole_lengths_with_every_bound(self):
        rnd = random.Random(11)
        told = []
        for count in range(1, 9):
            lengths = [rnd.randint(1, 12) for place in range(count)]
            told += [self.compare(c, 1, rungs(lengths), singles(count)) for c in range(1, sum(lengths) + 2)]
        self.assertLessEqual({-5, 1, 2, 3, 4, 5, 6}, set(told))

    def test_roots_with_many_bounds(self):
        rnd = random.Random(12)
        for count in range(1, 9):
            t, s = some_sign(rnd, count)
            for c in range(2, 60, 3):
                self.compare(c, rnd.choice((1, 2, 3)), t, s)

    def test_a_greater_bound_needs_no_more(self):
        t = ladder([(1, 1), (2, 1), (3, 1), (3, 2), (4, 1), (5, 1), (5, 2), (3, 4)])
        told = [fewest(c, 7, t, singles(8))[0] for c in range(30, 230, 2)]
        borne = [count for count in told if count != -5]
        self.assertEqual(told, [-5] * (len(told) - len(borne)) + sorted(borne, reverse=True))
        self.assertEqual(sorted(set(borne)), [1, 2, 3, 4, 5, 6])

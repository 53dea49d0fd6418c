"""The calls held against the helper's, at many inputs; the seeds are fixed, so each run is the same."""

import random
import unittest

from tests.helper import (drawing, found_fewest, found_row, judged, least_told, loaded, pieces_of, share_badly,
                          squares_of)
from tubedesk.circuits import fewest, judge, least, load, row


def sketch(rnd, side, count):
    """A drawing's strokes, grown piece by piece so that hardly any meet badly."""
    strokes = []
    pieces = []
    for attempt in range(count * 4):
        if len(pieces) == count:
            break
        start = strokes[-1][-1] if strokes and rnd.random() < 0.6 else (rnd.randrange(side), rnd.randrange(side))
        stop = (rnd.randrange(side), rnd.randrange(side))
        bad = start == stop or any(share_badly((start, stop), piece) for piece in pieces)
        if bad and rnd.random() < 0.99:
            continue
        pieces.append((start, stop))
        if strokes and strokes[-1][-1] == start:
            strokes[-1].append(stop)
        else:
            strokes.append([start, stop])
    return strokes or [[(0, 0), (1, 2)]]


def tubes(rnd, count, most):
    """Sets of pieces, now and then ones that aren't tubes."""
    s = [0] * rnd.randint(1, most)
    for i in range(count):
        place = rnd.randrange(len(s) + 1)
        if place < len(s):
            s[place] |= 1 << i
    s = [tube for tube in s if tube or rnd.random() < 0.1]
    if s and rnd.random() < 0.1:
        s[rnd.randrange(len(s))] |= 1 << rnd.randrange(count + 1)
    return s


def circuits(rnd, count):
    p = []
    for place in range(count):
        p.append(rnd.randint(0, max(p, default=-1) + (2 if rnd.random() < 0.05 else 1)))
    if rnd.random() < 0.03:
        p.append(0)
    return p


def bound(rnd, t, s):
    """A bound near the length of some of the tubes."""
    d = rnd.choice((1, 1, 2, 7, 1000, 99991))
    length = 0
    for tube in s:
        if rnd.random() < 0.6:
            length += sum(n ** 0.5 for n in squares_of(pieces_of(t) or [], tube))
    return min(2 ** 32 - 1, max(0, int(length * d) + rnd.choice((-1, 0, 0, 1, 1, 2)))), d


class AgainstReference(unittest.TestCase):
    def compare(self, call):
        self.assertEqual(judge(*call), judged(*call), call)

    def compare_found(self, c, d, t, s):
        self.assertEqual(fewest(c, d, t, s), found_fewest(c, d, t, s), (c, d, t, s))
        self.assertEqual(row(c, d, t, s), found_row(c, d, t, s), (c, d, t, s))

    def test_calls(self):
        rnd = random.Random(1)
        answers = {}
        for attempt in range(2500):
            side = rnd.choice((4, 8, 8, 30, 4096))
            strokes = sketch(rnd, side, rnd.randint(1, 16))
            t = drawing(*strokes)
            s = tubes(rnd, sum(len(stroke) - 1 for stroke in strokes), rnd.choice((2, 4, 6, 9)))
            c, d = bound(rnd, t, s)
            call = (c, d, t, s, circuits(rnd, len(s)))
            self.compare(call)
            self.compare_found(c, d, t, s)
            if attempt % 10 == 0:
                k = rnd.randrange(6)
                self.assertEqual(least(k, d, t, s), least_told(k, d, t, s), (k, d, t, s))
            for k in (0, rnd.randrange(4), 2 ** 32 - 1):
                self.assertEqual(load(k, *call[2:]), loaded(k, *call[2:]), (k, call))
            for first in (judge(*call)[0], fewest(*call[:4])[0]):
                answers[first] = answers.get(first, 0) + 1
        # Each answer that may come did come, so that the comparison says something.
        for first in (-9, -8, -6, -5, -4, -1, 1, 2, 3, 4):
            self.assertIn(first, answers)

    def test_texts_a_byte_off(self):
        rnd = random.Random(2)
        alphabet = list(b"0123456789,, \n\nsignstroke+-AZaz\t\r\x00\xff")
        for attempt in range(4000):
            t = drawing(*sketch(rnd, rnd.choice((5, 30)), rnd.randint(1, 5)), name=rnd.choice(("A", "Glass12", "abcdefghijkl")))
            place = rnd.randrange(len(t) + 1)
            change = rnd.randrange(3)
            if change == 0:
                t.insert(place, rnd.choice(alphabet))
            elif change == 1:
                t[place:place + 1] = [rnd.choice(alphabet)]
            else:
                del t[place:place + 1]
            self.compare((10, 1, t, [1], [0]))

    def test_crowded_drawings(self):
        rnd = random.Random(3)
        for attempt in range(300):
            t = drawing(*sketch(rnd, rnd.choice((3, 4, 40)), rnd.randint(20, 66)))
            self.compare((2 ** 32 - 1, 1, t, [1], [0]))

"""Texts for tests, and the calls written another and slower way, to hold the program's against."""

import re
from fractions import Fraction
from functools import lru_cache
from itertools import product
from math import isqrt

LINES = re.compile(rb"sign [A-Za-z0-9]{1,12}\n(?:stroke(?: (?:0|[1-9][0-9]*),(?:0|[1-9][0-9]*)){2,65}\n)+")
BITS = 3000


def as_bytes(words):
    return list(words.encode("latin-1"))


def drawing(*strokes, name="A"):
    """The text of a drawing; each stroke is told as its points, '0,0 3,4' or [(0, 0), (3, 4)]."""
    rows = ["sign " + name]
    for stroke in strokes:
        if not isinstance(stroke, str):
            stroke = " ".join("%d,%d" % point for point in stroke)
        rows.append("stroke " + stroke)
    return as_bytes("".join(row + "\n" for row in rows))


def ladder(extents):
    """A drawing of a stroke of one piece for each (dx, dy), each in rows of its own so that none meet."""
    strokes = []
    y = 0
    for dx, dy in extents:
        strokes.append([(0, y), (dx, y + dy)])
        y += dy + 1
    return drawing(*strokes)


def rungs(lengths):
    """A drawing of level pieces of the lengths told."""
    return ladder([(length, 0) for length in lengths])


def singles(count):
    """As many tubes, each of one piece."""
    return [1 << i for i in range(count)]


def some_sign(rnd, count):
    """A text and as many tubes, of one piece each and four more among them; hardly any length is whole."""
    t = ladder([(rnd.randint(1, 5), rnd.randint(0, 3)) for piece in range(count + 4)])
    s = singles(count)
    for piece in range(count, count + 4):
        s[rnd.randrange(count)] |= 1 << piece
    return t, s


def share_badly(one, other):
    (ax, ay), (bx, by) = one
    (cx, cy), (dx, dy) = other
    ux, uy, vx, vy, wx, wy = bx - ax, by - ay, dx - cx, dy - cy, cx - ax, cy - ay
    turn = ux * vy - uy * vx
    if turn != 0:
        along_one = Fraction(wx * vy - wy * vx, turn)
        along_other = Fraction(wx * uy - wy * ux, turn)
        if not (0 <= along_one <= 1 and 0 <= along_other <= 1):
            return False
        return not (along_one in (0, 1) and along_other in (0, 1))
    if ux * wy - uy * wx != 0:
        return False
    size = ux * ux + uy * uy
    places = sorted([Fraction(wx * ux + wy * uy, size), Fraction((dx - ax) * ux + (dy - ay) * uy, size)])
    return max(0, places[0]) < min(1, places[1])


def pieces_of(t):
    if not LINES.fullmatch(bytes(t)):
        return None
    pieces = []
    for row in bytes(t).split(b"\n")[1:-1]:
        points = [tuple(int(n) for n in word.split(b",")) for word in row.split(b" ")[1:]]
        if any(max(point) > 4095 for point in points):
            return None
        pieces += list(zip(points, points[1:]))
    ends = [point for piece in pieces for point in piece]
    if len(pieces) > 64 or any(a == b for a, b in pieces) or max(ends.count(point) for point in ends) > 8:
        return None
    if any(share_badly(pieces[i], pieces[k]) for i in range(len(pieces)) for k in range(i)):
        return None
    return pieces


def squares_of(pieces, chosen):
    return [(a[0] - b[0]) ** 2 + (a[1] - b[1]) ** 2 for i, (a, b) in enumerate(pieces) if chosen >> i & 1]


def kind_of(n):
    return next(n // (f * f) for f in range(isqrt(n), 0, -1) if n % (f * f) == 0)


@lru_cache(maxsize=None)
def long_root(n):
    return isqrt(n << 2 * BITS)


def bears(squares, c, d):
    whole = sum(isqrt(n) for n in squares if isqrt(n) ** 2 == n)
    rest = [n for n in squares if isqrt(n) ** 2 != n]
    if not rest:
        return whole * d <= c
    low = d * sum(long_root(n) for n in rest)
    room = (c - d * whole) << BITS
    if not (low >= room or low + d * len(rest) <= room):
        raise ValueError("too near to tell")
    return low < room


def refused(t, s, rest_fits, most_kinds=10):
    """The refusal that comes first, if one does that isn't about circuits, or None."""
    if len(t) > 65536:
        return -2
    pieces = pieces_of(t)
    if pieces is None:
        return -6
    if not 1 <= len(s) <= 8 or not rest_fits:
        return -1
    held = [[i for i in range(64) if tube >> i & 1] for tube in s]
    flat = [i for tube in held for i in tube]
    if [] in held or len(flat) != len(set(flat)) or max(flat) >= len(pieces):
        return -4
    if len({kind_of(n) for tube in s for n in squares_of(pieces, tube)} - {1}) > most_kinds:
        return -8
    return None


def judged(c, d, t, s, p):
    refusal = refused(t, s, c > 0 and d > 0 and len(p) == len(s))
    if refusal is not None:
        return [refusal]
    pieces = pieces_of(t)
    for i, number in enumerate(p):
        if number not in range(max(p[:i], default=-1) + 2):
            return [-9, i]
    for i, number in enumerate(p):
        if not bears(squares_of(pieces, sum(s[k] for k in range(i + 1) if p[k] == number)), c, d):
            return [-9, i]
    return [len(set(p))]


@lru_cache(maxsize=None)
def all_circuits(count):
    """All circuits that may be for so many tubes, in no order to rely on, each with its transformers' tubes as bits."""
    lists = product(*[range(place, -1, -1) for place in range(count)])
    may_be = [p for p in lists if all(p[i] <= max(p[:i], default=-1) + 1 for i in range(count))]
    return [(p, [sum(1 << i for i in range(count) if p[i] == k) for k in set(p)]) for p in may_be]


def right_circuits(c, d, t, s):
    """All right circuits."""
    pieces = pieces_of(t)
    borne = []
    for choice in range(1 << len(s)):
        together = sum(tube for i, tube in enumerate(s) if choice >> i & 1)
        borne.append(bears(squares_of(pieces, together), c, d))
    return [p for p, groups in all_circuits(len(s)) if all(borne[group] for group in groups)]


def first_of(right):
    """What fewest and row answer if these are the circuits to take from."""
    if not right:
        return [-5]
    count = min(len(set(p)) for p in right)
    return [count] + list(sorted(p for p in right if len(set(p)) == count)[0])


def found_fewest(c, d, t, s):
    refusal = refused(t, s, c > 0 and d > 0)
    return first_of(right_circuits(c, d, t, s)) if refusal is None else [refusal]


def found_row(c, d, t, s):
    refusal = refused(t, s, c > 0 and d > 0)
    if refusal is not None:
        return [refusal]
    right = right_circuits(c, d, t, s)
    return first_of([p for p in right if all(after - before in (0, 1) for before, after in zip(p, p[1:]))])


def loaded(k, t, s, p):
    refusal = refused(t, s, len(p) == len(s), most_kinds=64)
    if refusal is not None:
        return [refusal]
    return [0, sum(s[i] for i in range(len(s)) if p[i] == k)] if k in p else [-4]


def least_told(k, d, t, s):
    refusal = refused(t, s, k > 0 and d > 0)
    if refusal is not None:
        return [refusal]
    # 64 pieces are together shorter than 2 ** 19, so the least c lies above too_small and not above enough.
    too_small, enough = 0, d << 19
    while enough - too_small > 1:
        c = (too_small + enough) // 2
        if any(len(set(p)) <= k for p in right_circuits(c, d, t, s)):
            enough = c
        else:
            too_small = c
    return [0, enough]

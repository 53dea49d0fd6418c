"""The calls: which tubes may hang on which transformers."""

from tubedesk.drawings import drawing_pieces
from tubedesk.lengths import count_kinds_but_one, is_borne, measure

TEXT_TOO_LONG = -2
NO_DRAWING = -6
WRONG_ARGUMENTS = -1
WRONG_TUBES = -4
TOO_MANY_KINDS = -8
WRONG_CIRCUITS = -9
LONGEST_TEXT = 65536
MOST_TUBES = 8
MOST_KINDS = 10


def are_tubes(s, count):
    """Whether the sets are tubes of a drawing of count pieces: none empty, no piece twice, none that isn't there."""
    taken = 0
    for tube in s:
        if tube == 0 or tube >> count != 0 or tube & taken != 0:
            return False
        taken = taken | tube
    return True


def all_pieces(s):
    together = 0
    for tube in s:
        together = together | tube
    return together


def first_that_cannot_be(p):
    """The first tube whose number can't be, or None."""
    greatest = -1
    for tube, number in enumerate(p):
        if number > greatest + 1:
            return tube
        greatest = max(greatest, number)
    return None


def first_not_borne(measures, s, p, c, d):
    """The first tube that with those before it on its transformer isn't borne, or None."""
    loads = {}
    for tube, number in enumerate(p):
        loads[number] = loads.get(number, 0) | s[tube]
        if not is_borne(measures, loads[number], c, d):
            return tube
    return None


def judge(c, d, t, s, p):
    """How many transformers the circuits p have; or a refusal, with the tube's number behind -9."""
    if len(t) > LONGEST_TEXT:
        return [TEXT_TOO_LONG]
    pieces = drawing_pieces(t)
    if pieces is None:
        return [NO_DRAWING]
    if len(s) == 0 or len(s) > MOST_TUBES or c == 0 or d == 0 or len(p) != len(s):
        return [WRONG_ARGUMENTS]
    if not are_tubes(s, len(pieces)):
        return [WRONG_TUBES]
    measures = [measure(piece) for piece in pieces]
    if count_kinds_but_one(measures, all_pieces(s)) > MOST_KINDS:
        return [TOO_MANY_KINDS]
    wrong = first_that_cannot_be(p)
    if wrong is None:
        wrong = first_not_borne(measures, s, p, c, d)
    if wrong is not None:
        return [WRONG_CIRCUITS, wrong]
    return [max(p) + 1]

"""The calls: which tubes may hang on which transformers."""

from tubedesk.drawings import drawing_pieces
from tubedesk.lengths import count_kinds_but_one, is_borne, measure
from tubedesk.ways import first_of_fewest, loads, need, needs_of_loads, ways_at_will, ways_in_a_row

TEXT_TOO_LONG = -2
NO_DRAWING = -6
WRONG_ARGUMENTS = -1
WRONG_TUBES = -4
TOO_MANY_KINDS = -8
WRONG_CIRCUITS = -9
NO_CIRCUITS = -5
LONGEST_TEXT = 65536
MOST_TUBES = 8
MOST_KINDS = 10


def are_tubes(s, count):
    """Whether the sets are tubes of a drawing of count pieces: none empty, no piece twice, none that isn't there."""
    taken = 0
    for tube in s:
        if tube == 0 or tube >> count != 0 or tube & taken != 0:
            return False
        taken = taken | tube
    return True


def pieces_told(t):
    """The pieces of the drawing whose text t is, or None if it is none's or too long."""
    if len(t) > LONGEST_TEXT:
        return None
    return drawing_pieces(t)


def measures_told(t):
    """The measures of the pieces of the drawing whose text t is, or None if it is none's or too long."""
    pieces = pieces_told(t)
    if pieces is None:
        return None
    return [measure(piece) for piece in pieces]


def refusal_of_tubes(t, told, s, others_fit):
    """The first that applies of -2, -6, -1 and -4, or None.

    told has something for each piece, or is None without a drawing; others_fit is what -1 asks of the rest.
    """
    if len(t) > LONGEST_TEXT:
        return TEXT_TOO_LONG
    if told is None:
        return NO_DRAWING
    if len(s) == 0 or len(s) > MOST_TUBES or not others_fit:
        return WRONG_ARGUMENTS
    if not are_tubes(s, len(told)):
        return WRONG_TUBES
    return None


def refusal_of_lengths(t, measures, s, others_fit):
    """The first that applies of -2, -6, -1, -4 and -8, or None."""
    refusal = refusal_of_tubes(t, measures, s, others_fit)
    # No piece is in two tubes by now, so their sum is the set of all their pieces.
    if refusal is None and count_kinds_but_one(measures, sum(s)) > MOST_KINDS:
        return TOO_MANY_KINDS
    return refusal


def first_that_cannot_be(p):
    """The first tube whose number can't be, or None."""
    greatest = -1
    for tube, number in enumerate(p):
        if number > greatest + 1:
            return tube
        greatest = max(greatest, number)
    return None


def first_not_borne(measures, s, p, c, d):
    """The first tube that with those before it on its transformer isn't borne, or None."""
    hung = {}
    for tube, number in enumerate(p):
        hung[number] = hung.get(number, 0) | s[tube]
        if not is_borne(measures, hung[number], c, d):
            return tube
    return None


def judge(c, d, t, s, p):
    """How many transformers the circuits p have; or a refusal, with the tube's number behind -9."""
    measures = measures_told(t)
    refusal = refusal_of_lengths(t, measures, s, c > 0 and d > 0 and len(p) == len(s))
    if refusal is not None:
        return [refusal]
    wrong = first_that_cannot_be(p)
    if wrong is None:
        wrong = first_not_borne(measures, s, p, c, d)
    if wrong is not None:
        return [WRONG_CIRCUITS, wrong]
    return [max(p) + 1]


def circuits_found(c, d, t, s, in_a_row):
    """How many transformers, then the circuits found, at will or in a row; or a refusal."""
    measures = measures_told(t)
    refusal = refusal_of_lengths(t, measures, s, c > 0 and d > 0)
    if refusal is not None:
        return [refusal]
    ways = ways_in_a_row(len(s)) if in_a_row else ways_at_will(len(s))
    needs = needs_of_loads(measures, s, d)
    found = first_of_fewest([p for p in ways if need(needs, s, p) <= c])
    if found is None:
        return [NO_CIRCUITS]
    return [max(found) + 1] + found


def fewest(c, d, t, s):
    """How many transformers, then the circuits found; or a refusal."""
    return circuits_found(c, d, t, s, False)


def row(c, d, t, s):
    """How many transformers, then the circuits found in a row; or a refusal."""
    return circuits_found(c, d, t, s, True)


def load(k, t, s, p):
    """0, then the set of all pieces on transformer k of the circuits p, right or not; or a refusal."""
    refusal = refusal_of_tubes(t, pieces_told(t), s, len(p) == len(s))
    if refusal is not None:
        return [refusal]
    together = loads(s, p).get(k)
    if together is None:
        return [WRONG_TUBES]
    return [0, together]


def least(k, d, t, s):
    """0, then the least c such that c / d bears the tubes on k transformers at most; or a refusal."""
    measures = measures_told(t)
    refusal = refusal_of_lengths(t, measures, s, k > 0 and d > 0)
    if refusal is not None:
        return [refusal]
    needs = needs_of_loads(measures, s, d)
    return [0, min([need(needs, s, p) for p in ways_at_will(len(s)) if max(p) < k])]

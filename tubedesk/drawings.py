"""Drawings: the pieces that a drawing's text tells.

A point is a pair (x, y); a piece is a pair of points, its first and its second end.
"""

LINE_END = 10
BLANK = 32
COMMA = 44
DIGIT_ZERO = 48
DIGIT_NINE = 57
LONGEST_NAME = 12
GREATEST_COORDINATE = 4095
MOST_DIGITS = 4
MOST_POINTS = 65
MOST_PIECES = 64
MOST_DEGREE = 8


def cut(values, mark):
    """The runs of values between the marks; one run more than there are marks."""
    runs = [[]]
    for value in values:
        if value == mark:
            runs.append([])
        else:
            runs[-1].append(value)
    return runs


def spelled(word):
    return [ord(letter) for letter in word]


def is_digit(byte):
    return DIGIT_ZERO <= byte <= DIGIT_NINE


def is_name_byte(byte):
    return is_digit(byte) or ord("A") <= byte <= ord("Z") or ord("a") <= byte <= ord("z")


def is_sign_line(line):
    words = cut(line, BLANK)
    if len(words) != 2 or words[0] != spelled("sign"):
        return False
    name = words[1]
    return 1 <= len(name) <= LONGEST_NAME and all([is_name_byte(byte) for byte in name])


def coordinate(digits):
    """The number from 0 to 4,095 that the bytes tell, or None."""
    # Without needless 0s a fifth digit is above the greatest already, so long ones are never worked out.
    if len(digits) == 0 or len(digits) > MOST_DIGITS:
        return None
    if digits[0] == DIGIT_ZERO and len(digits) > 1:
        return None
    number = 0
    for byte in digits:
        if not is_digit(byte):
            return None
        number = number * 10 + byte - DIGIT_ZERO
    if number > GREATEST_COORDINATE:
        return None
    return number


def point_told(word):
    """The point that a word X,Y tells, or None."""
    halves = cut(word, COMMA)
    if len(halves) != 2:
        return None
    x = coordinate(halves[0])
    y = coordinate(halves[1])
    if x is None or y is None:
        return None
    return (x, y)


def stroke_points(line):
    """The points of a line with a stroke, or None if it is no such line."""
    words = cut(line, BLANK)
    count = len(words) - 1
    if words[0] != spelled("stroke") or count < 2 or count > MOST_POINTS:
        return None
    points = []
    for word in words[1:]:
        point = point_told(word)
        if point is None or (len(points) > 0 and point == points[-1]):
            return None
        points.append(point)
    return points


def strokes_pieces(lines):
    """The pieces of the strokes that the lines tell, or None if a line is wrong or they are too many."""
    pieces = []
    for line in lines:
        points = stroke_points(line)
        if points is None:
            return None
        for k in range(1, len(points)):
            pieces.append((points[k - 1], points[k]))
        if len(pieces) > MOST_PIECES:
            return None
    return pieces


def side(piece, point):
    """Above 0, 0 or below 0: on which side of the piece's straight line, or on it, the point lies."""
    start = piece[0]
    stop = piece[1]
    return (stop[0] - start[0]) * (point[1] - start[1]) - (stop[1] - start[1]) * (point[0] - start[0])


def is_between(one, other, number):
    return min(one, other) <= number <= max(one, other)


def is_amidst(piece, point):
    """Whether the point lies on the piece and is none of its ends."""
    start = piece[0]
    stop = piece[1]
    if point == start or point == stop or side(piece, point) != 0:
        return False
    return is_between(start[0], stop[0], point[0]) and is_between(start[1], stop[1], point[1])


def parts_ends(piece, other):
    """Whether the ends of the other piece lie on both sides of the piece's straight line, none on it."""
    return side(piece, other[0]) * side(piece, other[1]) < 0


def meet_badly(piece, other):
    if parts_ends(piece, other) and parts_ends(other, piece):
        return True
    # Pieces that share a point without crossing share an end of one: in the midst of the other, or its end too.
    if is_amidst(piece, other[0]) or is_amidst(piece, other[1]):
        return True
    if is_amidst(other, piece[0]) or is_amidst(other, piece[1]):
        return True
    return piece == other or piece == (other[1], other[0])


def any_meet_badly(pieces):
    for k in range(len(pieces)):
        if any([meet_badly(pieces[k], earlier) for earlier in pieces[:k]]):
            return True
    return False


def greatest_degree(pieces):
    degrees = {}
    for piece in pieces:
        for point in piece:
            degrees[point] = degrees.get(point, 0) + 1
    return max(degrees.values())


def drawing_pieces(text):
    """The pieces of the drawing whose text it is, in order of their numbers, or None if it is no drawing's text."""
    lines = cut(text, LINE_END)
    # The run behind the last line end is no line; bytes in it are a line whose end is missing.
    if lines[-1] != [] or len(lines) < 3 or not is_sign_line(lines[0]):
        return None
    pieces = strokes_pieces(lines[1:-1])
    if pieces is None or any_meet_badly(pieces) or greatest_degree(pieces) > MOST_DEGREE:
        return None
    return pieces

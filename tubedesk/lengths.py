"""Lengths of sets of pieces, held against bounds exactly.

A piece's measure is a pair (kind, factor): the piece is factor times the square root of kind long.
"""

FIRST_BITS = 64


def kind_and_factor(n):
    """The kind of n, and the factor such that n is kind times the square of factor."""
    kind = n
    factor = 1
    divisor = 2
    while divisor * divisor <= kind:
        if kind % (divisor * divisor) == 0:
            kind = kind // (divisor * divisor)
            factor = factor * divisor
        else:
            divisor = divisor + 1
    return (kind, factor)


def measure(piece):
    dx = piece[1][0] - piece[0][0]
    dy = piece[1][1] - piece[0][1]
    return kind_and_factor(dx * dx + dy * dy)


def factors_by_kind(measures, chosen):
    """For each kind among the pieces of the set chosen, the sum of their factors."""
    factors = {}
    for i, pair in enumerate(measures):
        if (chosen >> i) & 1 == 1:
            factors[pair[0]] = factors.get(pair[0], 0) + pair[1]
    return factors


def count_kinds_but_one(measures, chosen):
    """How many different kinds other than 1 the pieces of the set chosen have."""
    return len([kind for kind in factors_by_kind(measures, chosen) if kind != 1])


def floor_root(n):
    """The greatest whole number whose square is not above n, which is above 0."""
    guess = 1 << ((n.bit_length() + 1) // 2)
    while True:
        # From above the root each step comes down until it is reached.
        better = (guess + n // guess) // 2
        if better >= guess:
            return guess
        guess = better


def whole_above_roots(squares):
    """The least whole number above the square roots together; none of the squares is a whole number's."""
    bits = FIRST_BITS
    # Roots of different kinds never add up to a whole number, so with enough bits none lies within what is unsure.
    while True:
        low = sum([floor_root(square << (2 * bits)) for square in squares])
        # Each root is above its floor by less than 1, so the last that the sum's own floor may be is this.
        high = low + len(squares) - 1
        if low >> bits == high >> bits:
            return (low >> bits) + 1
        bits = 2 * bits


def least_bearing(measures, chosen, d):
    """The least whole number c such that the length of the set chosen is not above c / d."""
    factors = factors_by_kind(measures, chosen)
    whole = d * factors.get(1, 0)
    squares = [d * d * factor * factor * kind for kind, factor in factors.items() if kind != 1]
    if len(squares) == 0:
        return whole
    return whole + whole_above_roots(squares)


def is_borne(measures, chosen, c, d):
    """Whether the length of the set chosen is not above c / d."""
    return least_bearing(measures, chosen, d) <= c

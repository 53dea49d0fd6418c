"""Ways to hang tubes on transformers: circuits, and what each transformer has to bear.

Circuits are a list with a number for each tube: on which transformer it hangs.
"""

from tubedesk.lengths import least_bearing


def ways_at_will(count):
    """All circuits that may be for so many tubes."""
    ways = [[]]
    for tube in range(count):
        longer = []
        for p in ways:
            for number in range(max(p, default=-1) + 2):
                longer.append(p + [number])
        ways = longer
    return ways


def ways_in_a_row(count):
    """All circuits in a row for so many tubes, one or more."""
    ways = [[0]]
    for tube in range(1, count):
        longer = []
        for p in ways:
            longer.append(p + [p[-1]])
            longer.append(p + [p[-1] + 1])
        ways = longer
    return ways


def loads(s, p):
    """For each transformer of the circuits p, by its number, the set of all pieces on it."""
    together = {}
    for tube, number in zip(s, p):
        together[number] = together.get(number, 0) | tube
    return together


def needs_of_loads(measures, s, d):
    """For each set of pieces that some of the tubes make together, the least c such that c / d bears it."""
    chosen = [0]
    for tube in s:
        chosen = chosen + [part | tube for part in chosen]
    needs = {}
    for part in chosen[1:]:
        needs[part] = least_bearing(measures, part, d)
    return needs


def need(needs, s, p):
    """The least c such that c / d bears what hangs on each transformer of the circuits p."""
    return max([needs[together] for together in loads(s, p).values()])


def first_of_fewest(ways):
    """Of the circuits those with the fewest transformers, and of these the first; None if there are none."""
    return min(ways, key=lambda p: (max(p), p), default=None)

"""The kinds whose rows have each number as often as told: once, or by counts.

Each function gives the kind, or None if a bound is passed. Where a state is a
number, its bits are the numbers used so far.
"""

from rankroom.kind import always, build


def orders(counts):
    """Each number x just as often as counts tells."""
    if len(counts) > 8 or sum(counts) > 10:
        return None

    def moves(place, left):
        return [(x, left[:x] + (left[x] - 1,) + left[x + 1:]) for x in range(len(left)) if left[x] > 0]

    return build(sum(counts), len(counts), 1, tuple(counts), moves, always)


def unused(n, used):
    """The numbers below n that aren't used."""
    return [x for x in range(n) if (used >> x) & 1 == 0]


def derangements(n):
    """Each number below n once, none at the place of its own number."""
    if n > 7:
        return None

    def moves(place, used):
        return [(x, used | (1 << x)) for x in unused(n, used) if x != place]

    return build(n, n, 1, 0, moves, always)


def zigzags(n):
    """Each number below n once, by turns greater and less than the one before."""
    if n > 7:
        return None

    def moves(place, state):
        used = state[0]
        fitting = unused(n, used)
        if place % 2 == 1:
            fitting = [x for x in fitting if x > state[1]]
        if place > 0 and place % 2 == 0:
            fitting = [x for x in fitting if x < state[1]]
        return [(x, (used | (1 << x), x)) for x in fitting]

    return build(n, n, 1, (0, 0), moves, always)


def extensions(masks):
    """Each number below n once, behind all the numbers whose bits its mask has."""
    n = len(masks)
    if n > 7 or max(masks, default=0) >= 1 << n:
        return None

    def moves(place, used):
        return [(x, used | (1 << x)) for x in unused(n, used) if masks[x] & used == masks[x]]

    return build(n, n, 1, 0, moves, always)


def pairings(n, partners):
    """The rows in which x stands at place i just where i stands at place x.

    partners[i] has the numbers that may stand at place i. A state has for each
    place the number that an earlier place asks for there, or n if none does.
    """

    def moves(place, asked):
        if asked[place] < n:
            return [(asked[place], asked)]
        free = [x for x in partners[place] if x >= place and asked[x] == n]
        return [(x, asked[:x] + (place,) + asked[x + 1:]) for x in free]

    return build(n, n, 1, (n,) * n, moves, always)


def involutions(n):
    """Each number below n once; where x stands at place i, i stands at place x."""
    if n > 7:
        return None
    return pairings(n, [list(range(n)) for place in range(n)])


def matchings(masks):
    """Involutions without x at place x, x at place i only if the masks of both allow it."""
    n = len(masks)
    if n > 7 or max(masks, default=0) >= 1 << n:
        return None
    return pairings(n, [allowed_partners(masks, place) for place in range(n)])


def allowed_partners(masks, place):
    """The numbers other than place that place's mask has and whose masks have place."""
    both_ways = [x for x in range(len(masks)) if (masks[place] >> x) & (masks[x] >> place) & 1 == 1]
    return [x for x in both_ways if x != place]

"""The kinds whose rows may have a number more than once.

Each function gives the kind, or None if a bound is passed.
"""

from rankroom.kind import always, build


def words(n, k):
    """n numbers below k, any."""
    if n > 20 or k > 20:
        return None

    def moves(place, state):
        return [(x, state) for x in range(k)]

    return build(n, k, 1, 0, moves, always)


def choices(n, k):
    """k numbers below n, each greater than the one before."""
    if n > 20 or k > 20:
        return None

    def moves(place, least):
        return [(x, x + 1) for x in range(least, n)]

    return build(k, n, 1, 0, moves, always)


def bags(n, k):
    """k numbers below n, none less than the one before."""
    if n > 20 or k > 20:
        return None

    def moves(place, least):
        return [(x, x) for x in range(least, n)]

    return build(k, n, 1, 0, moves, always)


def parts(total, n, most):
    """n numbers up to most, none greater than the one before, with the sum total."""
    if total > 60 or n > 20 or most > 19:
        return None

    def moves(place, state):
        greatest = min(state[0], state[1])
        return [(x, (x, state[1] - x)) for x in range(greatest + 1)]

    return build(n, most + 1, 1, (most, total), moves, lambda state: state[1] == 0)


def shares(total, n, least, most):
    """n numbers from least to most with the sum total."""
    if total > 200 or n > 20 or least > 19 or most > 19:
        return None

    def moves(place, left):
        return [(x, left - x) for x in range(least, min(most, left) + 1)]

    return build(n, most + 1, 1, total, moves, lambda left: left == 0)


def groups(n, k):
    """n numbers, each at most as many as different ones stand before it, k different in all."""
    if n > 12 or k > 12:
        return None

    def moves(place, different):
        # The different ones so far are just those below their number: a new one can only be that number.
        old = [(x, different) for x in range(different)]
        if different == k:
            return old
        return old + [(different, different + 1)]

    return build(n, k, 1, 0, moves, lambda different: different == k)


def paths(n, high, end):
    """n steps, 1 up and 0 down, from height 0 to end, never below 0 nor above high."""
    if n > 20 or high > 20 or end > 20:
        return None

    def moves(place, height):
        steps = []
        if height > 0:
            steps.append((0, height - 1))
        if height < high:
            steps.append((1, height + 1))
        return steps

    return build(n, 2, 1, 0, moves, lambda height: height == end)


def automaton(states, k, accepting, n, following):
    """n numbers below k that take state 0 to an accepting one."""
    if states < 1 or states > 8 or k > 6 or n > 16:
        return None
    if accepting >= 1 << states or len(following) != states * k or max(following, default=0) > 255:
        return None

    def moves(place, state):
        row = following[state * k:state * k + k]
        return [(x, behind) for x, behind in enumerate(row) if behind < states]

    return build(n, k, 1, 0, moves, lambda state: (accepting >> state) & 1 == 1)


def walks(n, start, end, masks):
    """n + 1 nodes, each one's mask having the bit of the one behind it, from start to end."""
    nodes = len(masks)
    if n > 16 or nodes < 1 or nodes > 8 or start > nodes or end > nodes:
        return None
    if max(masks) >= 1 << nodes:
        return None

    def moves(place, node):
        if place == 0:
            return [(x, x) for x in range(nodes) if start == nodes or start == x]
        return [(x, x) for x in range(nodes) if (masks[node] >> x) & 1 == 1]

    return build(n + 1, nodes, 1, 0, moves, lambda node: end == nodes or end == node)

"""Kinds put together of others."""

from rankroom.kind import DEAD, build, fit_letters


def both(a, b):
    """The rows of a that are b's too; a and b have rows as long."""

    def goes_on(state):
        return state[0] != DEAD and state[1] != DEAD

    return side_by_side(a, b, min(a.letters, b.letters), goes_on, goes_on)


def either(a, b):
    """The rows of a or of b; a and b have rows as long."""

    def goes_on(state):
        return state[0] != DEAD or state[1] != DEAD

    return side_by_side(a, b, max(a.letters, b.letters), goes_on, goes_on)


def less(a, b):
    """The rows of a that aren't b's; a and b have rows as long."""

    def goes_on(state):
        return state[0] != DEAD

    def ends(state):
        return state[0] != DEAD and state[1] == DEAD

    return side_by_side(a, b, a.letters, goes_on, ends)


def side_by_side(a, b, letters, goes_on, ends):
    """Make a kind by going through a and b at once: a state is a node of a and one of b.

    goes_on says whether a row may still come of a state, ends whether one may
    end there.
    """
    left = fit_letters(a, letters)
    right = fit_letters(b, letters)

    def moves(place, state):
        pairs = list(zip(left[place][state[0]], right[place][state[1]]))
        return [(x, pair) for x, pair in enumerate(pairs) if goes_on(pair)]

    return build(a.length, letters, a.size + b.size, (a.root, b.root), moves, ends)


def then(a, b):
    """A row of a, behind it one of b."""
    layers = a.layers[:-1] + b.layers
    # What a's last nodes become: where a row of a ends, those of b begin.
    crossing = (DEAD, b.root)

    def moves(place, node):
        children = layers[place][node]
        if place == a.length - 1:
            children = [crossing[child] for child in children]
        return living(children)

    start = a.root if a.length > 0 else crossing[a.root]
    letters = max(a.letters, b.letters)
    return build(a.length + b.length, letters, a.size + b.size, start, moves, is_alive)


def begins(a, p):
    """The rows of a that begin with p, which is no longer than they are."""

    def moves(place, node):
        all_moves = living(a.layers[place][node])
        if place >= len(p):
            return all_moves
        return [move for move in all_moves if move[0] == p[place]]

    return build(a.length, a.letters, a.size, a.root, moves, is_alive)


def living(children):
    """The numbers that lead on, each with the node that it leads to."""
    return [(x, child) for x, child in enumerate(children) if child != DEAD]


def is_alive(node):
    """Say whether a row goes through the node."""
    return node != DEAD

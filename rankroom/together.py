"""Kinds put together of two others."""

from rankroom.kind import DEAD, build


def both(a, b):
    """The rows of a that are b's too; a and b have rows as long."""
    letters = min(a.letters, b.letters)

    def moves(place, state):
        left = a.layers[place][state[0]]
        right = b.layers[place][state[1]]
        return [(x, (left[x], right[x])) for x in range(letters) if left[x] != DEAD and right[x] != DEAD]

    def ends(state):
        return state[0] != DEAD and state[1] != DEAD

    return build(a.length, letters, a.size + b.size, (a.root, b.root), moves, ends)

"""Rows and their numbers: what a walk through a kind's graph tells."""

from rankroom.kind import DEAD, follow


def row_at(kind, number):
    """The row of a number that is below the kind's total."""
    row = []
    node = kind.root
    left = number
    for place in range(kind.length):
        children = kind.layers[place][node]
        ways = kind.ways[place + 1]
        x = 0
        while left >= ways[children[x]]:
            left -= ways[children[x]]
            x += 1
        row.append(x)
        node = children[x]
    return row


def beginning(kind, row):
    """How many rows of the kind have first numbers before these, and how many have these.

    Of a whole row: how many rows stand before it, and 1 if it's one of the
    kind, else 0.
    """
    before = 0
    node = kind.root
    for place, number in enumerate(row):
        ways = kind.ways[place + 1]
        before += sum([ways[child] for child in kind.layers[place][node][:number]])
        node = follow(kind, place, node, number)
    return (before, kind.ways[len(row)][node])


def fault(kind, row):
    """The first place up to which no row of the kind begins like this one, or None if it's one of the kind."""
    if kind.root == DEAD:
        return 0
    node = kind.root
    for place, number in enumerate(row):
        node = follow(kind, place, node, number)
        if node == DEAD:
            return place
    return None

"""Whether two kinds have the same rows."""

from rankroom.kind import DEAD, END, fit_letters, merge


def first_apart(a, b):
    """The first row that just one of a and b has, or None if they have the same; a and b have rows as long.

    The nodes of both are put into common layers, those alike only once: then
    two nodes have the same ends just where they are the same node.
    """
    letters = max(a.letters, b.letters)
    left = fit_letters(a, letters)
    right = fit_letters(b, letters)
    left_names = [DEAD, END]
    right_names = [DEAD, END]
    layers = []
    for place in range(a.length - 1, -1, -1):
        nodes = {}
        left_names = merge(left[place][1:], letters, left_names, nodes)
        right_names = merge(right[place][1:], letters, right_names, nodes)
        layers.append(list(nodes))
    layers.reverse()
    if left_names[a.root] == right_names[b.root]:
        return None
    return first_way_apart(layers, left_names[a.root], right_names[b.root])


def first_way_apart(layers, left, right):
    """The first way that leads from just one of two nodes, which aren't the same, to the end."""
    way = []
    for layer in layers:
        pairs = list(zip(layer[left], layer[right]))
        x = 0
        while pairs[x][0] == pairs[x][1]:
            x += 1
        way.append(x)
        left = pairs[x][0]
        right = pairs[x][1]
    return way

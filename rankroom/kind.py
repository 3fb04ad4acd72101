"""A kind's rows as a layered graph: a row is a way through it, a node a layer.

Layer i has the nodes before place i. A node is a tuple: for each number the
node of the next layer that the number leads to. Node 0 of each layer is the
dead one: no row goes through it. Prefixes with the same ends share a node, so
the graph stays small where the rows are many.
"""

DEAD = 0
END = 1


class Kind:
    """The rows of one kind; it is never changed, so others may be made of it."""

    def __init__(self, length, letters, size, root, layers, ways):
        self.length = length
        self.letters = letters
        self.size = size
        self.root = root
        self.layers = layers
        self.ways = ways
        self.total = ways[0][root]


def always(state):
    """Say yes: for kinds whose every way of the full length is a row."""
    return True


def build(length, letters, size, start, moves, ends):
    """Make the kind whose rows lead from the state start to one that ends.

    moves(place, state) gives the pairs (number, state behind it), each number
    once and below letters; ends(state) says whether a row may end there.
    """
    reached = reach(length, letters, start, moves)
    steps = reached[0]
    names = [DEAD] + [END if ends(state) else DEAD for state in reached[1]]
    layers = [[(), ()]]
    ways = [[0, 1]]
    for step in reversed(steps):
        nodes = {}
        names = merge(step, letters, names, nodes)
        layers.append(list(nodes))
        ways.append(count_ways(list(nodes), ways[-1]))
    layers.reverse()
    ways.reverse()
    return Kind(length, letters, size, names[1], layers, ways)


def reach(length, letters, start, moves):
    """Find all states, place by place.

    Gives a list of steps and the last place's states. A step has, for each
    state of its place, a list with the next state's number for each number;
    states are numbered from 1 on, 0 stands for no way.
    """
    states = [start]
    steps = []
    for place in range(length):
        found = {}
        step = []
        for state in states:
            children = [DEAD] * letters
            for x, behind in moves(place, state):
                children[x] = found.setdefault(behind, len(found) + 1)
            step.append(children)
        steps.append(step)
        states = list(found)
    return (steps, states)


def merge(step, letters, names, nodes):
    """Put the nodes of one step into nodes, those alike only once.

    names has the nodes of the next layer's states; given back are those of
    this layer's. The dead node goes in first, so a state from which no row
    goes on falls together with it.
    """
    nodes[(DEAD,) * letters] = DEAD
    own_names = [DEAD]
    for children in step:
        node = tuple([names[child] for child in children])
        own_names.append(nodes.setdefault(node, len(nodes)))
    return own_names


def count_ways(nodes, ways_behind):
    """Count for each node how many ways lead from it to the end."""
    ways = []
    for node in nodes:
        ways.append(sum([ways_behind[child] for child in node]))
    return ways


def fit_letters(kind, letters):
    """The kind's layers but the last, its nodes made to have so many letters: the last cut off, or dead ones added."""
    added = (DEAD,) * letters
    layers = []
    for layer in kind.layers[:-1]:
        layers.append([(node + added)[:letters] for node in layer])
    return layers


def follow(kind, place, node, number):
    """The node that the number, of whatever size, leads to from a node before that place."""
    if number >= kind.letters:
        return DEAD
    return kind.layers[place][node][number]

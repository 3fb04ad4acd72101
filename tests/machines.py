"""Large kinds as machines that take a row number by number: counts that go through no list of rows.

A machine has letters, a start, a step (the state behind a number, or None
where nothing goes on) and ends. It's written from the document's words alone.
"""

from helpers import bit


class Machine:
    def __init__(self, length, letters, start, step, ends):
        self.length = length
        self.letters = letters
        self.start = start
        self.step = step
        self.ends = ends
        self.known = {}

    def ways(self, place, state):
        """How many rows lead on from the state before that place."""
        if state is None:
            return 0
        if place == self.length:
            return int(self.ends(state))
        if (place, state) not in self.known:
            behind = [self.step(state, x) for x in range(self.letters)]
            self.known[place, state] = sum(self.ways(place + 1, after) for after in behind)
        return self.known[place, state]

    def total(self):
        return self.ways(0, self.start)

    def row(self, number):
        """The row of a number."""
        state = self.start
        row = []
        for place in range(self.length):
            for x in range(self.letters):
                after = self.step(state, x)
                if number < self.ways(place + 1, after):
                    break
                number -= self.ways(place + 1, after)
            row.append(x)
            state = after
        return row

    def beginning(self, row):
        """How many rows have first numbers before these, how many have these."""
        before = 0
        state = self.start
        for place, number in enumerate(row):
            for x in range(min(number, self.letters)):
                before += self.ways(place + 1, self.step(state, x))
            state = self.step(state, number) if number < self.letters else None
            if state is None:
                return before, 0
        return before, self.ways(len(row), state)


def words(n, k):
    return Machine(n, k, 0, lambda state, x: 0, lambda state: True)


def bags(n, k):
    return Machine(k, n, 0, lambda last, x: x if x >= last else None, lambda last: True)


def choices(n, k):
    return Machine(k, n, -1, lambda last, x: x if x > last else None, lambda last: True)


def orders(counts):
    def step(left, x):
        return left[:x] + (left[x] - 1,) + left[x + 1:] if left[x] > 0 else None

    return Machine(sum(counts), len(counts), tuple(counts), step, lambda left: True)


def parts(total, n, most):
    def step(state, x):
        return (x, state[1] - x) if x <= state[0] and x <= state[1] else None

    return Machine(n, most + 1, (most, total), step, lambda state: state[1] == 0)


def shares(total, n, least, most):
    def step(left, x):
        return left - x if least <= x <= left else None

    return Machine(n, most + 1, total, step, lambda left: left == 0)


def groups(n, k):
    def step(different, x):
        return max(different, x + 1) if x <= different else None

    return Machine(n, k, 0, step, lambda different: different == k)


def paths(n, high, end):
    def step(height, x):
        after = height + 1 if x == 1 else height - 1
        return after if 0 <= after <= high else None

    return Machine(n, 2, 0, step, lambda height: height == end)


def automaton(states, k, accepting, n, following):
    def step(state, x):
        after = following[state * k + x]
        return after if after < states else None

    return Machine(n, k, 0, step, lambda state: bit(accepting, state))


def walks(n, start, end, masks):
    nodes = len(masks)

    def step(last, x):
        if last == -1:
            return x if start in (x, nodes) else None
        return x if bit(masks[last], x) else None

    return Machine(n + 1, nodes, -1, step, lambda last: end in (last, nodes))


def rows_listed(length, letters, rows):
    """A kind whose rows are so few that they are listed."""
    rows = set(rows)
    firsts = {row[:many] for row in rows for many in range(length + 1)}

    def step(so_far, x):
        return so_far + (x,) if so_far + (x,) in firsts else None

    return Machine(length, letters, (), step, lambda so_far: so_far in rows)


class Together:
    """Machines that take a row at once; which of its rows count, each kind put together of them tells for itself."""

    def __init__(self, *machines):
        self.machines = machines
        self.known = {}

    def step(self, state, x):
        if (state, x) not in self.known:
            after = []
            for machine, at in zip(self.machines, state):
                after.append(machine.step(at, x) if at is not None and x < machine.letters else None)
            self.known[state, x] = None if after.count(None) == len(after) else tuple(after)
        return self.known[state, x]

    def kind(self, letters, fits):
        """The rows of which fits says so, from whether each of the machines has it."""
        def ends(state):
            return fits(*[at is not None and machine.ends(at) for machine, at in zip(self.machines, state)])

        start = tuple(machine.start for machine in self.machines)
        return Machine(self.machines[0].length, letters, start, self.step, ends)


def behind_one_another(a, b):
    """A row of a, behind it one of b."""
    def step(state, x):
        place, at = state
        machine = a if place < a.length else b
        after = machine.step(at, x) if x < machine.letters else None
        if after is None:
            return None
        if place + 1 == a.length:
            return (place + 1, b.start) if a.ends(after) else None
        return place + 1, after

    def ends(state):
        return b.ends(state[1])

    return Machine(a.length + b.length, max(a.letters, b.letters), (0, a.start), step, ends)

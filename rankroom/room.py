"""The room: reads the calls of a line, keeps the kinds, gives the answers."""

from rankroom.alike import first_apart
from rankroom.permutations import derangements, extensions, involutions, matchings, orders, zigzags
from rankroom.questions import answer_about, answer_fair
from rankroom.refusals import BOUND_PASSED, NOT_FITTING, NO_KIND, TOO_MANY_ROWS
from rankroom.sequences import automaton, bags, choices, groups, parts, paths, shares, walks, words
from rankroom.together import begins, both, either, less, then

# For each call: how many whole numbers it has, and whether a list stands behind them.
FORMS = {
    1: (3, False), 2: (3, False), 3: (3, False), 4: (1, True), 5: (2, False), 6: (2, False), 7: (2, False),
    8: (4, False), 9: (5, False), 10: (3, False), 11: (4, False), 12: (5, True), 13: (1, True), 14: (4, True),
    15: (1, True), 16: (3, False), 17: (3, False), 18: (3, False), 19: (3, False), 20: (2, True), 21: (1, False),
    22: (2, False), 23: (1, True), 24: (1, True), 25: (1, True), 26: (1, True), 27: (3, False), 28: (1, True),
    29: (1, True), 30: (2, False), 31: (1, False),
}

LAST_KIND = 5
LARGEST_SIZE = 3
LONGEST_TOGETHER = 20
# 2 to the 62nd: so many rows are already too many.
ROWS_LIMIT = 4611686018427387904


class Call:
    """One call of a line: its number, its whole numbers, its list, and where the line goes on."""

    def __init__(self, number, given, listed, after):
        self.number = number
        self.given = given
        self.listed = listed
        self.after = after


class Room:
    """The kinds that have numbers, and the answers to calls on them."""

    def __init__(self):
        self.kinds = {}

    def answer(self, call):
        """Carry out one call and give its answer's numbers."""
        number = call.number
        if number <= 15:
            return self.make(call)
        if number <= 19:
            return self.put_together(number, call.given[0], call.given[1], call.given[2])
        if number == 20:
            return self.begin(call.given[0], call.given[1], call.listed)
        if number == 29:
            return answer_fair(call.given[0], call.listed)
        if number == 30:
            return self.compare(call.given[0], call.given[1])
        if call.given[0] not in self.kinds:
            return [NO_KIND]
        if number == 31:
            self.kinds.pop(call.given[0])
            return [0]
        return answer_about(self.kinds[call.given[0]], number, call.given[1:], call.listed)

    def make(self, call):
        """Calls 1 to 15."""
        t = call.given[0]
        if t > LAST_KIND:
            return [BOUND_PASSED]
        kind = one_of_fifteen(call.number, call.given[1:], call.listed)
        if kind is None:
            return [BOUND_PASSED]
        return self.keep(t, kind)

    def put_together(self, number, t, a, b):
        """Calls 16 to 19."""
        if t > LAST_KIND:
            return [BOUND_PASSED]
        if a not in self.kinds or b not in self.kinds:
            return [NO_KIND]
        kind = one_of_two(number, self.kinds[a], self.kinds[b])
        if kind is None:
            return [NOT_FITTING]
        return self.keep(t, kind)

    def begin(self, t, a, p):
        """Call 20."""
        if t > LAST_KIND:
            return [BOUND_PASSED]
        if a not in self.kinds:
            return [NO_KIND]
        if len(p) > self.kinds[a].length:
            return [NOT_FITTING]
        return self.keep(t, begins(self.kinds[a], p))

    def compare(self, a, b):
        """Call 30."""
        if a not in self.kinds or b not in self.kinds:
            return [NO_KIND]
        if self.kinds[a].length != self.kinds[b].length:
            return [NOT_FITTING]
        row = first_apart(self.kinds[a], self.kinds[b])
        if row is None:
            return [0, 1]
        return [0, 0] + row

    def keep(self, t, kind):
        """Give the kind the number t, unless it has too many rows."""
        if kind.total >= ROWS_LIMIT:
            return [TOO_MANY_ROWS]
        self.kinds[t] = kind
        return [0, kind.length, kind.total]


def one_of_fifteen(number, given, listed):
    """Make the kind of a call from 1 to 15, or None if a bound is passed."""
    if number == 1:
        return words(given[0], given[1])
    if number == 2:
        return choices(given[0], given[1])
    if number == 3:
        return bags(given[0], given[1])
    if number == 4:
        return orders(listed)
    if number == 5:
        return derangements(given[0])
    if number == 6:
        return involutions(given[0])
    if number == 7:
        return zigzags(given[0])
    if number == 8:
        return parts(given[0], given[1], given[2])
    if number == 9:
        return shares(given[0], given[1], given[2], given[3])
    if number == 10:
        return groups(given[0], given[1])
    if number == 11:
        return paths(given[0], given[1], given[2])
    if number == 12:
        return automaton(given[0], given[1], given[2], given[3], listed)
    if number == 13:
        return extensions(listed)
    if number == 14:
        return walks(given[0], given[1], given[2], listed)
    return matchings(listed)


def one_of_two(number, a, b):
    """Put a and b together by a call from 16 to 19, or give None if they don't fit."""
    if a.size + b.size > LARGEST_SIZE:
        return None
    if number == 19:
        return then(a, b) if a.length + b.length <= LONGEST_TOGETHER else None
    if a.length != b.length:
        return None
    if number == 16:
        return both(a, b)
    if number == 17:
        return either(a, b)
    return less(a, b)


def read_call(calls, at):
    """Read the call that begins at that place of the line."""
    form = FORMS[calls[at]]
    list_at = at + 1 + form[0]
    given = calls[at + 1:list_at]
    if not form[1]:
        return Call(calls[at], given, [], list_at)
    after = list_at + 1 + calls[list_at]
    return Call(calls[at], given, calls[list_at + 1:after], after)


def answers(calls):
    """Answer a line of calls on a new room: for each call how many numbers, then these."""
    room = Room()
    answered = []
    at = 0
    while at < len(calls):
        call = read_call(calls, at)
        answer = room.answer(call)
        answered.append(len(answer))
        answered.extend(answer)
        at = call.after
    return answered

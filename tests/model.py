"""A room by the document's words alone: a kind is the list of its rows, each answer is found by going through it.

Nothing of the program is used here. It's for small kinds, so the bounds of the
calls 1 to 15 and -4 are not looked for.
"""

from helpers import LISTED, all_rows, begins, made, told

# Kinds of lengths 0, 1, 3 and 4, with letters from none to many.
POOL = [
    (1, 0, 0), (1, 0, 5), (2, 4, 0), (4, [0, 0]), (5, 0), (8, 0, 0, 3), (8, 1, 0, 3), (9, 0, 0, 1, 2), (10, 0, 0),
    (10, 0, 2), (11, 0, 1, 0), (12, 2, 2, 0b01, 0, [0, 1, 1, 0]), (12, 2, 2, 0b10, 0, [0, 1, 1, 0]), (13, []), (15, []),
    (1, 1, 0), (1, 1, 6), (2, 3, 1), (5, 1), (6, 1), (8, 2, 1, 4), (9, 3, 1, 0, 5), (10, 1, 1), (11, 1, 2, 1),
    (14, 0, 2, 3, [7, 7, 7]), (14, 0, 3, 3, [0, 0, 0]), (13, [0]), (13, [1]), (15, [1]),
    (1, 3, 4), (1, 3, 2), (1, 3, 0), (2, 5, 3), (3, 4, 3), (4, [1, 2]), (4, [0, 1, 0, 1, 1]), (5, 3), (6, 3), (7, 3),
    (8, 4, 3, 3), (8, 3, 3, 1), (9, 6, 3, 1, 4), (9, 4, 3, 0, 5), (10, 3, 2), (10, 3, 3), (11, 3, 2, 1), (11, 3, 3, 3),
    (12, 3, 3, 0b101, 3, [1, 2, 0, 2, 3, 1, 255, 0, 1]), (12, 2, 5, 0b10, 3, [0, 1, 0, 1, 0, 1, 0, 1, 0, 1]),
    (13, [0, 1, 0]), (13, [2, 0, 0]), (14, 2, 4, 4, [0b1010, 0b1101, 0b0110, 0b0011]), (14, 2, 0, 2, [7, 6, 5]),
    (15, [7, 7, 7]),
    (1, 4, 3), (2, 6, 4), (3, 3, 4), (4, [2, 1, 1]), (4, [1, 1, 1, 1]), (4, [2, 2]), (5, 4), (6, 4), (7, 4),
    (8, 6, 4, 4), (8, 2, 4, 2), (9, 6, 4, 0, 3), (9, 5, 4, 1, 2), (10, 4, 2), (10, 4, 4), (11, 4, 2, 0), (11, 4, 4, 2),
    (12, 4, 4, 0b1001, 4, [1, 2, 3, 0, 0, 3, 1, 2, 3, 3, 2, 1, 4, 0, 1, 255]), (12, 1, 2, 1, 4, [0, 0]),
    (13, [0, 0, 0, 0]), (13, [0, 1, 0, 4]), (14, 3, 4, 4, [0b1110, 0b1101, 0b1011, 0b0111]),
    (14, 3, 2, 1, [0b111, 0b110, 0b011]), (15, [15, 15, 15, 15]), (15, [10, 5, 10, 5]),
]

BY_LENGTH = {}
for at, kind in enumerate(POOL):
    BY_LENGTH.setdefault(told(*kind)[0], []).append(at)


class Rows:
    """What a kind is: its length, letters, size, and its rows in order."""

    def __init__(self, length, letters, size, rows):
        self.length = length
        self.letters = letters
        self.size = size
        self.rows = sorted(rows)


FOUND = {}


def one_of(number, *given):
    """One of the fifteen kinds; its rows are looked for once."""
    key = repr((number, given))
    if key not in FOUND:
        length, letters, fits = told(number, *given)
        FOUND[key] = Rows(length, letters, 1, all_rows(number, *given))
    return FOUND[key]


def put_together(number, a, b):
    """The kind that a call from 16 to 19 puts together of a and b."""
    size = a.size + b.size
    rows_of_b = set(b.rows)
    if number == 16:
        return Rows(a.length, min(a.letters, b.letters), size, [row for row in a.rows if row in rows_of_b])
    if number == 17:
        return Rows(a.length, max(a.letters, b.letters), size, set(a.rows) | rows_of_b)
    if number == 18:
        return Rows(a.length, a.letters, size, [row for row in a.rows if row not in rows_of_b])
    rows = [first + second for first in a.rows for second in b.rows]
    return Rows(a.length + b.length, max(a.letters, b.letters), size, rows)


def begun(a, p):
    """The rows of a that begin with p."""
    return Rows(a.length, a.letters, a.size, [row for row in a.rows if list(row[:len(p)]) == list(p)])


def first_fault(kind, row):
    """The first place with which no row of the kind begins; None if there's none."""
    if not kind.rows:
        return 0
    for place in range(len(row)):
        if not any(other[:place + 1] == row[:place + 1] for other in kind.rows):
            return place
    return None


def fair_number(n, drawn):
    """The fair number below n and how many words it takes, None if the words are too few."""
    w = 0
    while n > 2 ** (32 * w):
        w += 1
    b = 2 ** (32 * w)
    taken = 0
    while True:
        if taken + w > len(drawn):
            return None
        x = sum(word * 2 ** (32 * place) for place, word in enumerate(drawn[taken:taken + w]))
        taken += w
        if not x * n % b < b % n:
            return x * n // b, taken


def row_or_none(rows):
    return [0, *rows[0]] if rows else [-5]


def ask_kind(kind, number, given):
    """The answer to a call from 21 to 28; given is what stands behind t."""
    rows = kind.rows
    if number == 21:
        return [0, kind.length, kind.letters, kind.size, len(rows)]
    if number == 22:
        return row_or_none(rows[given[0]:given[0] + 1])
    if number == 27:
        i, m = given
        return [-1] if m > 20 else [0] + [x for row in rows[i:i + m] for x in (len(row), *row)]
    if number == 28:
        if not rows:
            return [-5]
        found = fair_number(len(rows), given[0])
        return [-6] if found is None else [0, found[1], *rows[found[0]]]
    row = tuple(given[0])
    if number == 26:
        if len(row) > kind.length:
            return [-2]
        firsts = [other[:len(row)] for other in rows]
        return [0, len([first for first in firsts if first < row]), len([first for first in firsts if first == row])]
    if len(row) != kind.length:
        return [-2]
    if number == 23:
        place = first_fault(kind, row)
        return [0, len([other for other in rows if other < row])] if place is None else [-9, place]
    if number == 24:
        return row_or_none([other for other in rows if other > row])
    return row_or_none([other for other in rows if other < row][::-1])


def ask_fair(n, drawn):
    """The answer to call 29."""
    if n == 0 or n > 2 ** 62:
        return [-1]
    found = fair_number(n, drawn)
    return [-6] if found is None else [0, *found]


def ask_alike(a, b):
    """The answer to call 30 on two kinds."""
    if a.length != b.length:
        return [-2]
    just_one = sorted(set(a.rows) ^ set(b.rows))
    return [0, 0, *just_one[0]] if just_one else [0, 1]


class Model:
    """The room: answers a call given as its number and what stands behind it, the list as a list."""

    def __init__(self):
        self.kinds = {}

    def keep(self, t, kind):
        self.kinds[t] = kind
        return [0, kind.length, len(kind.rows)]

    def answer(self, number, *given):
        if number == 29:
            return ask_fair(*given)
        if number <= 20 and given[0] > 5:
            return [-1]
        if number <= 15:
            return self.keep(given[0], one_of(number, *given[1:]))
        asked = given[1:3] if number <= 19 else given[1:2] if number == 20 else given if number == 30 else given[:1]
        if any(t not in self.kinds for t in asked):
            return [-3]
        kinds = [self.kinds[t] for t in asked]
        if number == 31:
            self.kinds.pop(given[0])
            return [0]
        if number == 30:
            return ask_alike(*kinds)
        if number > 20:
            return ask_kind(kinds[0], number, given[1:])
        if number == 20:
            return [-2] if len(given[2]) > kinds[0].length else self.keep(given[0], begun(kinds[0], given[2]))
        a, b = kinds
        if a.size + b.size > 3 or (a.length + b.length > 20 if number == 19 else a.length != b.length):
            return [-2]
        return self.keep(given[0], put_together(number, a, b))

    def answer_call(self, call):
        """The answer to a call as it stands in a line."""
        if call[0] not in LISTED:
            return self.answer(*call)
        numbers = NUMBERS_BEFORE_LIST[call[0]] + 1
        return self.answer(*call[:numbers], list(call[numbers + 1:]))


# For the calls with a list: how many whole numbers stand before its length.
NUMBERS_BEFORE_LIST = {4: 1, 12: 5, 13: 1, 14: 4, 15: 1, 20: 2, 23: 1, 24: 1, 25: 1, 26: 1, 28: 1, 29: 1}


def kind_of(making):
    """What kind 0 is behind these calls."""
    model = Model()
    for call in making:
        model.answer_call(call)
    return model.kinds[0]


def random_making(source, size, most_rows):
    """Calls that make kind 0 of so many of the fifteen, put together in any way, and how it's put together."""
    while True:
        making, ways = random_calls(source, size)
        if len(kind_of(making).rows) <= most_rows:
            return making, ways


def random_calls(source, size):
    number, *given = source.choice(POOL)
    making = [made(number, 0, *given)]
    ways = []
    while kind_of(making).size < size or source.random() < 0.2:
        kind = kind_of(making)
        if kind.size == size or source.random() < 0.2:
            row = source.choice(kind.rows) if kind.rows and source.random() < 0.8 else (1,) * kind.length
            making.append(begins(0, 0, row[:source.randint(0, kind.length)]))
            ways.append(20)
            continue
        way = source.choice([16, 17, 18, 19])
        length = source.choice([0, 1, 3, 4]) if way == 19 else kind.length
        if length not in BY_LENGTH:
            way, length = 19, 0
        number, *given = POOL[source.choice(BY_LENGTH[length])]
        pair = source.choice([(0, 1), (1, 0)])
        making += [made(number, 1, *given), made(way, 0, *pair)]
        ways.append(way)
    return making, ways

"""What the tests share: how a call is written, and the kinds' rows by the document's words alone.

The rows are found by going through all rows there could be: nothing of the
program is used for them.
"""

import itertools

from rankroom.room import answers

LISTED = (4, 12, 13, 14, 15, 20, 23, 24, 25, 26, 28, 29)
LARGEST = 4294967295
NAMES = {
    1: "words", 2: "choices", 3: "bags", 4: "orders", 5: "derangements", 6: "involutions", 7: "zigzags",
    8: "parts", 9: "shares", 10: "groups", 11: "paths", 12: "automaton", 13: "extensions", 14: "walks",
    15: "matchings",
}


def made(number, t, *given):
    """A call as it stands in a line; the last thing given is the list, if the call has one."""
    if number not in LISTED:
        return [number, t, *given]
    return [number, t, *given[:-1], len(given[-1]), *given[-1]]


def both(t, a, b):
    return made(16, t, a, b)


def either(t, a, b):
    return made(17, t, a, b)


def less(t, a, b):
    return made(18, t, a, b)


def then(t, a, b):
    return made(19, t, a, b)


def begins(t, a, p):
    return made(20, t, a, p)


def tell(t):
    return made(21, t)


def row_of(t, i):
    return made(22, t, i)


def number_of(t, row):
    return made(23, t, row)


def next_of(t, row):
    return made(24, t, row)


def previous_of(t, row):
    return made(25, t, row)


def beginning(t, row):
    return made(26, t, row)


def rows_from(t, i, m):
    return made(27, t, i, m)


def draw(t, drawn):
    return made(28, t, drawn)


def fair(n, drawn):
    return made(29, n, drawn)


def alike(a, b):
    return made(30, a, b)


def drop(t):
    return made(31, t)


def ask(*calls):
    """The answers to these calls as one line, an answer a list."""
    line = [number for call in calls for number in call]
    handed = list(line)
    answered = answers(handed)
    if handed != line:
        raise AssertionError("the line was changed")
    if any(type(number) is not int for number in answered):
        raise AssertionError("not whole numbers alone")
    split = []
    at = 0
    while at < len(answered):
        split.append(answered[at + 1:at + 1 + answered[at]])
        at += 1 + answered[at]
    if at != len(answered) or len(split) != len(calls):
        raise AssertionError("not an answer for each call")
    return split


def ask_one(*calls):
    """The last call's answer."""
    return ask(*calls)[-1]


def ask_many(making, questions):
    """The answers to questions behind these calls, in as many lines of 40 calls as it takes."""
    found = []
    at_once = 40 - len(making)
    for at in range(0, len(questions), at_once):
        found += ask(*making, *questions[at:at + at_once])[len(making):]
    return found


def each_once(row, n):
    return sorted(row) == list(range(n))


def bit(number, place):
    return number // 2 ** place % 2 == 1


def fits_zigzag(row):
    for place in range(1, len(row)):
        if place % 2 == 1 and not row[place] > row[place - 1]:
            return False
        if place % 2 == 0 and not row[place] < row[place - 1]:
            return False
    return True


def fits_groups(row, k):
    for place, number in enumerate(row):
        if number > len(set(row[:place])):
            return False
    return len(set(row)) == k


def fits_path(row, high, end):
    height = 0
    for step in row:
        if step > 1:
            return False
        height += 1 if step == 1 else -1
        if height < 0 or height > high:
            return False
    return height == end


def fits_automaton(row, states, k, accepting, following):
    state = 0
    for number in row:
        if number >= k:
            return False
        state = following[state * k + number]
        if state >= states:
            return False
    return bit(accepting, state)


def fits_extension(row, masks):
    n = len(masks)
    if not each_once(row, n):
        return False
    for v in range(n):
        for u in range(n):
            if bit(masks[v], u) and not row.index(u) < row.index(v):
                return False
    return True


def fits_walk(row, start, end, masks):
    nodes = len(masks)
    if any(number >= nodes for number in row):
        return False
    if start != nodes and row[0] != start or end != nodes and row[-1] != end:
        return False
    return all(bit(masks[x], y) for x, y in zip(row, row[1:]))


def fits_matching(row, masks):
    n = len(masks)
    if not each_once(row, n):
        return False
    for i, x in enumerate(row):
        if row[x] != i or x == i or not bit(masks[i], x) or not bit(masks[x], i):
            return False
    return True


def told(number, *given):
    """A kind's length, its letters, and what says of a row whether it's one of the kind."""
    if number == 1:
        n, k = given
        return n, k, lambda row: all(x < k for x in row)
    if number == 2:
        n, k = given
        return k, n, lambda row: all(x < n for x in row) and all(x < y for x, y in zip(row, row[1:]))
    if number == 3:
        n, k = given
        return k, n, lambda row: all(x < n for x in row) and all(x <= y for x, y in zip(row, row[1:]))
    if number == 4:
        counts = given[0]
        return sum(counts), len(counts), lambda row: [row.count(x) for x in range(len(counts))] == list(counts)
    if number == 5:
        n = given[0]
        return n, n, lambda row: each_once(row, n) and all(x != i for i, x in enumerate(row))
    if number == 6:
        n = given[0]
        return n, n, lambda row: each_once(row, n) and all(row[x] == i for i, x in enumerate(row))
    if number == 7:
        n = given[0]
        return n, n, lambda row: each_once(row, n) and fits_zigzag(row)
    if number == 8:
        total, n, most = given
        return n, most + 1, lambda row: (
            sum(row) == total and all(x <= most for x in row) and all(x >= y for x, y in zip(row, row[1:])))
    if number == 9:
        total, n, least, most = given
        return n, most + 1, lambda row: sum(row) == total and all(least <= x <= most for x in row)
    if number == 10:
        n, k = given
        return n, k, lambda row: fits_groups(row, k)
    if number == 11:
        n, high, end = given
        return n, 2, lambda row: fits_path(row, high, end)
    if number == 12:
        states, k, accepting, n, following = given
        return n, k, lambda row: fits_automaton(row, states, k, accepting, following)
    if number == 13:
        masks = given[0]
        return len(masks), len(masks), lambda row: fits_extension(row, masks)
    if number == 14:
        n, start, end, masks = given
        return n + 1, len(masks), lambda row: fits_walk(row, start, end, masks)
    masks = given[0]
    return len(masks), len(masks), lambda row: fits_matching(row, masks)


def all_rows(number, *given):
    """All rows of a kind. One number more than its letters is tried, so that a row too many would show."""
    length, letters, fits = told(number, *given)
    return [row for row in itertools.product(range(letters + 1), repeat=length) if fits(row)]


def length_of(number, *given):
    return told(number, *given)[0]


def only(row):
    """The automaton, as given to call 12, whose one row this is: up to 7 numbers below 6."""
    n = len(row)
    following = []
    for place in range(n):
        following += [place + 1 if x == row[place] else 255 for x in range(6)]
    following += [255] * 6
    return (12, n + 1, 6, 2 ** n, n, following)


def rows_found(candidates, *making):
    """Which of the candidates are rows of kind 0, made by these calls: asked by both with the one row."""
    found = []
    for at in range(0, len(candidates), 12):
        some = candidates[at:at + 12]
        calls = list(making)
        for row in some:
            number, *given = only(row)
            calls += [made(number, 1, *given), both(2, 0, 1)]
        answered = ask(*calls)[len(making) + 1::2]
        found += [row for row, answer in zip(some, answered) if answer == [0, len(row), 1]]
        if any(answer not in ([0, len(some[0]), 0], [0, len(some[0]), 1]) for answer in answered):
            raise AssertionError("both with one row has more than one")
    return found

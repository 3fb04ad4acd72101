"""The answers to calls 21 to 28, which ask about one kind, and to call 29."""

from rankroom.fair import fair_number
from rankroom.ranks import beginning, fault, row_at
from rankroom.refusals import BOUND_PASSED, NOT_FITTING, NO_ROW_OF_THE_KIND, NO_SUCH_ROW, TOO_FEW_WORDS

MOST_ROWS_AT_ONCE = 20
# 2 to the 62nd: a fair number is asked below so much at the most.
FAIR_LIMIT = 4611686018427387904


def answer_about(kind, number, given, listed):
    """Answer a call from 21 to 28; given and listed are what it has behind the kind's number."""
    if number == 21:
        return [0, kind.length, kind.letters, kind.size, kind.total]
    if number == 22:
        return answer_row(kind, given[0])
    if number == 27:
        return answer_rows(kind, given[0], given[1])
    if number == 28:
        return answer_draw(kind, listed)
    if number == 26:
        return answer_beginning(kind, listed)
    if len(listed) != kind.length:
        return [NOT_FITTING]
    if number == 23:
        return answer_number(kind, listed)
    if number == 24:
        # Before the next one stand those before this row, and this row itself if it's one of the kind.
        return answer_row(kind, sum(beginning(kind, listed)))
    return answer_row(kind, beginning(kind, listed)[0] - 1)


def answer_row(kind, number):
    """The row of that number, if there is one."""
    if number < 0 or number >= kind.total:
        return [NO_SUCH_ROW]
    return [0] + row_at(kind, number)


def answer_number(kind, row):
    """The row's number, or where it goes wrong."""
    place = fault(kind, row)
    if place is not None:
        return [NO_ROW_OF_THE_KIND, place]
    return [0, beginning(kind, row)[0]]


def answer_beginning(kind, row):
    """How many rows begin before this beginning, how many with it."""
    if len(row) > kind.length:
        return [NOT_FITTING]
    return [0] + list(beginning(kind, row))


def answer_rows(kind, first, many):
    """The rows from a number on, each behind its length."""
    if many > MOST_ROWS_AT_ONCE:
        return [BOUND_PASSED]
    answer = [0]
    for number in range(first, min(first + many, kind.total)):
        answer.append(kind.length)
        answer.extend(row_at(kind, number))
    return answer


def answer_draw(kind, drawn):
    """How many words were taken, and the row that they draw."""
    if kind.total == 0:
        return [NO_SUCH_ROW]
    found = fair_number(kind.total, drawn)
    if found is None:
        return [TOO_FEW_WORDS]
    return [0, found[1]] + row_at(kind, found[0])


def answer_fair(n, drawn):
    """The fair number below n, and how many words were taken."""
    if n == 0 or n > FAIR_LIMIT:
        return [BOUND_PASSED]
    found = fair_number(n, drawn)
    if found is None:
        return [TOO_FEW_WORDS]
    return [0, found[0], found[1]]

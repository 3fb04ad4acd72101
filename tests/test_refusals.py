"""Refusals: each one, the one told first where two are due, and that nothing is changed by them."""

import unittest

from helpers import (
    LARGEST, alike, ask, ask_many, ask_one, begins, beginning, both, draw, drop, either, fair, less, made, next_of,
    number_of, previous_of, row_of, rows_from, tell, then)
from rankroom.kind import always, build
from rankroom.room import Room

ENDLESS = 9223372036854775807


class TooManyRows(unittest.TestCase):
    def test_words(self):
        self.assertEqual(ask_one(made(1, 0, 20, 8)), [0, 20, 2 ** 60])
        self.assertEqual(ask_one(made(1, 0, 20, 9)), [-4])
        self.assertEqual(ask_one(made(1, 0, 15, 17)), [0, 15, 17 ** 15])
        self.assertEqual(ask_one(made(1, 0, 18, 11)), [-4])
        self.assertEqual(ask_one(made(1, 0, 20, 20)), [-4])

    def test_words_all(self):
        for n in range(21):
            for k in range(21):
                answer = [0, n, k ** n] if k ** n < 2 ** 62 else [-4]
                self.assertEqual(ask_one(made(1, 0, n, k)), answer)

    def test_shares(self):
        # The shares whose rows are nearest to 2 to the 62nd, on both sides.
        self.assertEqual(ask_one(made(9, 0, 84, 18, 0, 17)), [0, 18, 2 ** 62 - 182486903780068])
        self.assertEqual(ask_one(made(9, 0, 113, 17, 0, 15)), [-4])
        self.assertEqual(ask_one(made(9, 0, 190, 20, 0, 19)), [-4])

    def test_the_limit_itself(self):
        # No call comes to the limit itself: the kinds here are made straight.
        just = build(31, 4, 1, 0, lambda place, state: [(x, 0) for x in range(4)], always)
        self.assertEqual(just.total, 2 ** 62)
        room = Room()
        self.assertEqual(room.keep(0, just), [-4])
        self.assertEqual(room.kinds, {})
        below = build(62, 2, 1, 0, lambda place, state: [(0, state), (1, 1)], lambda state: state == 1)
        self.assertEqual(below.total, 2 ** 62 - 1)
        self.assertEqual(room.keep(0, below), [0, 62, 2 ** 62 - 1])

    def test_either(self):
        # Shares with other sums have no row in common; these pairs come near to 2 to the 62nd, on both sides.
        below = [made(9, 0, 86, 18, 0, 13), made(9, 1, 157, 18, 4, 18)]
        above = [made(9, 0, 70, 18, 0, 16), made(9, 1, 89, 18, 0, 14)]
        for a, b in ((0, 1), (1, 0)):
            self.assertEqual(ask_one(*below, either(2, a, b)), [0, 18, 2 ** 62 - 165643032975898])
            self.assertEqual(ask(*above, either(2, a, b), tell(2))[2:], [[-4], [-3]])
        rows = [answer[2] for answer in ask(*above)]
        self.assertEqual(sum(rows), 2 ** 62 + 82969759061996)

    def test_either_with_rows_in_common(self):
        self.assertEqual(ask_one(made(1, 0, 16, 14), either(1, 0, 0)), [0, 16, 14 ** 16])
        self.assertEqual(ask_one(made(1, 0, 15, 17), made(1, 1, 15, 16), either(1, 0, 1)), [0, 15, 17 ** 15])

    def test_less_and_begins_of_the_largest(self):
        making = made(9, 0, 84, 18, 0, 17)
        self.assertEqual(ask_one(making, less(1, 0, 0)), [0, 18, 0])
        self.assertEqual(ask_one(making, begins(1, 0, [])), [0, 18, 2 ** 62 - 182486903780068])

    def test_then(self):
        self.assertEqual(ask_one(made(1, 0, 10, 8), made(1, 1, 8, 16), then(2, 0, 1)), [-4])
        self.assertEqual(ask_one(made(1, 0, 10, 8), made(1, 1, 8, 16), then(2, 1, 0)), [-4])
        self.assertEqual(ask_one(made(1, 0, 1, 4), made(1, 1, 15, 16), then(2, 0, 1)), [-4])
        self.assertEqual(ask_one(made(1, 0, 1, 3), made(1, 1, 15, 16), then(2, 0, 1)), [0, 16, 3 * 2 ** 60])
        self.assertEqual(ask_one(made(1, 0, 10, 8), made(1, 1, 8, 15), then(2, 0, 1)), [0, 18, 2 ** 30 * 15 ** 8])
        self.assertEqual(ask_one(made(1, 0, 10, 20), then(1, 0, 0)), [-4])
        self.assertEqual(ask_one(made(1, 0, 10, 20), made(1, 1, 10, 0), then(1, 0, 1)), [0, 20, 0])

    def test_then_just_below(self):
        without_one = [made(1, 0, 15, 16), made(1, 1, 15, 1), less(0, 0, 1), made(1, 1, 1, 4)]
        self.assertEqual(ask_one(*without_one, then(2, 0, 1)), [0, 16, 2 ** 62 - 4])
        self.assertEqual(ask_one(*without_one, then(2, 1, 0)), [0, 16, 2 ** 62 - 4])
        with_all = [made(1, 0, 15, 16), made(1, 1, 15, 1), either(0, 0, 1), made(1, 1, 1, 4)]
        self.assertEqual(ask_one(*with_all, then(2, 0, 1)), [-4])

    def test_a_bound_is_told_before(self):
        self.assertEqual(ask_one(made(1, 6, 20, 20)), [-1])
        self.assertEqual(ask_one(made(1, 0, 21, 20)), [-1])
        self.assertEqual(ask_one(made(9, 6, 190, 20, 0, 19)), [-1])
        self.assertEqual(ask_one(made(9, 0, 201, 20, 0, 19)), [-1])
        self.assertEqual(ask_one(made(9, LARGEST, 190, 20, 0, 19)), [-1])

    def test_a_kind_refused_is_none(self):
        self.assertEqual(ask(made(1, 0, 20, 20), both(1, 0, 0)), [[-4], [-3]])


class BothRefused(unittest.TestCase):
    def test_no_kind(self):
        kind = made(1, 0, 2, 2)
        self.assertEqual(ask_one(both(0, 0, 0)), [-3])
        self.assertEqual(ask_one(kind, both(1, 0, 1)), [-3])
        self.assertEqual(ask_one(kind, both(1, 1, 0)), [-3])
        self.assertEqual(ask_one(kind, both(0, 0, 5)), [-3])
        for above in (6, LARGEST):
            self.assertEqual(ask_one(kind, both(1, 0, above)), [-3])
            self.assertEqual(ask_one(kind, both(1, above, 0)), [-3])

    def test_not_rows_as_long(self):
        self.assertEqual(ask_one(made(1, 0, 2, 2), made(1, 1, 3, 2), both(2, 0, 1)), [-2])
        self.assertEqual(ask_one(made(1, 0, 2, 2), made(1, 1, 3, 2), both(2, 1, 0)), [-2])
        self.assertEqual(ask_one(made(1, 0, 0, 2), made(1, 1, 1, 2), both(2, 1, 0)), [-2])

    def test_not_as_long_without_rows(self):
        self.assertEqual(ask_one(made(1, 0, 2, 0), made(1, 1, 3, 0), both(2, 0, 1)), [-2])
        self.assertEqual(ask_one(made(10, 0, 0, 1), made(1, 1, 1, 0), both(2, 0, 1)), [-2])
        self.assertEqual(ask_one(made(1, 0, 3, 0), made(1, 1, 3, 0), both(2, 0, 1)), [0, 3, 0])

    def test_walks_are_one_longer(self):
        walk = made(14, 0, 3, 0, 2, [3, 3])
        self.assertEqual(ask_one(made(14, 0, 3, 2, 2, [3, 3]), made(1, 1, 3, 2), both(2, 0, 1)), [-2])
        self.assertEqual(ask_one(walk, made(1, 1, 4, 2), both(2, 0, 1)), [0, 4, 8])

    def test_size_above_three(self):
        kind = made(1, 0, 2, 2)
        two = both(1, 0, 0)
        three = both(2, 1, 0)
        self.assertEqual(ask(kind, two, three)[1:], [[0, 2, 4], [0, 2, 4]])
        self.assertEqual(ask_one(kind, two, both(2, 0, 1)), [0, 2, 4])
        self.assertEqual(ask_one(kind, two, both(3, 1, 1)), [-2])
        self.assertEqual(ask_one(kind, two, three, both(3, 2, 0)), [-2])
        self.assertEqual(ask_one(kind, two, three, both(3, 0, 2)), [-2])
        self.assertEqual(ask_one(kind, two, three, both(3, 2, 1)), [-2])
        self.assertEqual(ask_one(kind, two, three, both(3, 2, 2)), [-2])

    def test_size_above_three_without_rows(self):
        kind = made(1, 0, 2, 0)
        self.assertEqual(ask_one(kind, both(1, 0, 0), both(2, 1, 1)), [-2])

    def test_a_kind_made_anew_has_size_one(self):
        kind = made(1, 0, 2, 2)
        self.assertEqual(ask_one(kind, both(0, 0, 0), both(0, 0, 0)), [-2])
        self.assertEqual(ask_one(kind, both(0, 0, 0), kind, both(0, 0, 0)), [0, 2, 4])

    def test_the_one_told_first(self):
        short = made(1, 0, 1, 2)
        long = made(1, 1, 2, 2)
        self.assertEqual(ask_one(both(6, 0, 1)), [-1])
        self.assertEqual(ask_one(short, both(LARGEST, 0, 1)), [-1])
        self.assertEqual(ask_one(short, long, both(6, 0, 1)), [-1])
        self.assertEqual(ask_one(long, both(2, 1, 1), both(6, 2, 2)), [-1])
        self.assertEqual(ask_one(long, both(2, 1, 1), both(3, 2, 0)), [-3])
        self.assertEqual(ask_one(long, both(2, 1, 1), both(3, 6, 2)), [-3])


class PutTogetherRefused(unittest.TestCase):
    """Calls 17 to 20."""

    def test_no_kind(self):
        kind = made(1, 0, 2, 2)
        for call in (either, less, then):
            self.assertEqual(ask_one(call(0, 0, 0)), [-3])
            for a, b in ((0, 1), (1, 0), (5, 5), (0, 6), (6, 0), (0, LARGEST), (LARGEST, LARGEST)):
                self.assertEqual(ask_one(kind, call(0, a, b)), [-3])
            self.assertEqual(ask_one(kind, drop(0), call(0, 0, 0)), [-3])
        for a in (1, 5, 6, LARGEST):
            self.assertEqual(ask_one(kind, begins(0, a, [])), [-3])

    def test_t_above_five(self):
        kind = made(1, 0, 2, 2)
        for t in (6, 7, LARGEST):
            for call in (either(t, 0, 0), less(t, 0, 0), then(t, 0, 0), begins(t, 0, [])):
                self.assertEqual(ask_one(kind, call), [-1])
        for t in range(6):
            calls = [either(t, 0, 0), less(t, 0, 0), then(t, 0, 0), begins(t, 0, [])]
            self.assertEqual([ask_one(kind, call) for call in calls], [[0, 2, 4], [0, 2, 0], [0, 4, 16], [0, 2, 4]])

    def test_not_rows_as_long(self):
        calls = [made(1, 0, 2, 2), made(1, 1, 3, 2), made(1, 2, 3, 0), made(10, 3, 0, 1)]
        for call in (both, either, less):
            for a, b in ((0, 1), (1, 0), (0, 2), (2, 0), (3, 2), (2, 3)):
                self.assertEqual(ask_one(*calls, call(4, a, b)), [-2])
        for a, b in ((0, 1), (1, 0), (0, 2), (3, 2)):
            self.assertEqual(ask_one(*calls, then(4, a, b))[0], 0)

    def test_then_of_twenty_numbers_and_one_more(self):
        for first in range(21):
            calls = [made(1, 0, first, 1), made(1, 1, 20 - first, 1), made(1, 2, min(20, 21 - first), 1)]
            self.assertEqual(ask_one(*calls, then(3, 0, 1)), [0, 20, 1])
            self.assertEqual(ask_one(*calls, then(3, 1, 0)), [0, 20, 1])
            if first > 0:
                self.assertEqual(ask_one(*calls, then(3, 0, 2)), [-2])
                self.assertEqual(ask_one(*calls, then(3, 2, 0)), [-2])
        self.assertEqual(ask_one(made(1, 0, 20, 1), then(0, 0, 0)), [-2])
        self.assertEqual(ask_one(made(1, 0, 20, 0), made(1, 1, 1, 0), then(0, 0, 1)), [-2])
        self.assertEqual(ask_one(made(14, 0, 16, 1, 1, [1]), made(1, 1, 3, 1), then(0, 0, 1)), [0, 20, 1])
        self.assertEqual(ask_one(made(14, 0, 16, 1, 1, [1]), made(1, 1, 4, 1), then(0, 0, 1)), [-2])

    def test_then_of_three(self):
        calls = [made(1, 0, 7, 1), then(1, 0, 0), made(1, 2, 6, 1)]
        self.assertEqual(ask(*calls, then(3, 1, 2), tell(3))[3:], [[0, 20, 1], [0, 20, 1, 3, 1]])
        self.assertEqual(ask_one(*calls, then(3, 1, 0)), [-2])

    def test_size(self):
        kind = made(1, 0, 2, 2)
        for first in (both, either, less):
            for second in (both, either, less, then):
                two = [kind, first(1, 0, 0)]
                for a, b in ((0, 1), (1, 0)):
                    self.assertEqual(ask(*two, second(2, a, b), tell(2))[-1][3], 3)
                    three = [*two, second(2, a, b)]
                    for fourth in (then, second) if second != then else (then,):
                        for pair in ((2, 0), (0, 2), (2, 1), (2, 2)):
                            self.assertEqual(ask_one(*three, fourth(3, *pair)), [-2])
                self.assertEqual(ask_one(*two, second(2, 1, 1)), [-2])

    def test_begins_adds_no_size(self):
        calls = [made(1, 0, 2, 2), either(1, 0, 0), either(2, 1, 0)]
        for t in range(3):
            self.assertEqual(ask_one(*calls, begins(3, t, [1]), tell(3)), [0, 2, 2, t + 1, 2])
        self.assertEqual(ask_one(*calls, begins(3, 1, [1]), less(4, 0, 3)), [0, 2, 2])
        self.assertEqual(ask_one(*calls, begins(3, 2, [1]), less(4, 0, 3)), [-2])

    def test_begins_with_too_many(self):
        self.assertEqual(ask_one(made(1, 0, 2, 2), begins(1, 0, [0, 0])), [0, 2, 1])
        self.assertEqual(ask_one(made(1, 0, 2, 2), begins(1, 0, [0, 0, 0])), [-2])
        self.assertEqual(ask_one(made(1, 0, 0, 2), begins(1, 0, [0])), [-2])
        self.assertEqual(ask_one(made(1, 0, 2, 0), begins(1, 0, [0, 0, 0])), [-2])

    def test_the_one_told_first(self):
        long = made(1, 0, 19, 9)
        short = made(1, 1, 2, 2)
        for call in (either, less, then):
            self.assertEqual(ask_one(call(6, 0, 1)), [-1])
            self.assertEqual(ask_one(long, short, call(6, 0, 1)), [-1])
            self.assertEqual(ask_one(long, call(1, 0, 1)), [-3])
            self.assertEqual(ask_one(short, either(2, 1, 1), call(3, 2, 0)), [-3])
            self.assertEqual(ask_one(short, either(2, 1, 1), call(6, 2, 2)), [-1])
        # More than 20 together, or a size above 3, where there would be 2^62 rows or more as well.
        many = made(1, 0, 11, 20)
        self.assertEqual(ask_one(many, then(1, 0, 0)), [-2])
        calls = [made(1, 0, 9, 20), both(1, 0, 0)]
        self.assertEqual(ask_one(*calls, then(2, 1, 0)), [-4])
        self.assertEqual(ask_one(*calls, then(2, 1, 1)), [-2])
        calls = [made(9, 0, 70, 18, 0, 16), made(9, 1, 89, 18, 0, 14), both(2, 0, 0), both(3, 1, 1)]
        self.assertEqual(ask_one(*calls, either(4, 2, 1)), [-4])
        self.assertEqual(ask_one(*calls, either(4, 2, 3)), [-2])
        self.assertEqual(ask_one(*calls, either(6, 2, 1)), [-1])
        self.assertEqual(ask_one(begins(6, 0, [1])), [-1])
        self.assertEqual(ask_one(short, begins(6, 1, [1, 1, 1])), [-1])
        self.assertEqual(ask_one(short, begins(0, 0, [1, 1, 1])), [-3])


class QuestionsRefused(unittest.TestCase):
    """Calls 21 to 31."""

    QUESTIONS = (
        tell, lambda t: row_of(t, 0), lambda t: number_of(t, [0, 0]), lambda t: next_of(t, [0, 0]),
        lambda t: previous_of(t, [1, 1]), lambda t: beginning(t, [0]), lambda t: rows_from(t, 0, 1),
        lambda t: draw(t, [5]), drop, lambda t: alike(t, 0), lambda t: alike(0, t))

    def test_no_kind(self):
        kind = made(1, 0, 2, 2)
        for question in self.QUESTIONS:
            self.assertEqual(ask_one(kind, question(0))[0], 0)
            for t in (1, 5, 6, LARGEST):
                self.assertEqual(ask_one(kind, question(t)), [-3])
            self.assertEqual(ask_one(question(0)), [-3])
            self.assertEqual(ask_one(kind, drop(0), question(0)), [-3])
            self.assertEqual(ask_one(kind, drop(0), kind, question(0))[0], 0)

    def test_no_kind_is_told_first(self):
        for question in (
            row_of(3, ENDLESS), number_of(3, [0]), number_of(3, [5, 5]), next_of(3, [0]), next_of(3, [9, 9]),
            previous_of(3, [0]), previous_of(3, [0, 0]), beginning(3, [0, 0, 0]), rows_from(3, 0, 21),
            rows_from(6, 0, LARGEST), draw(3, []), alike(3, 1), alike(1, 3),
        ):
            self.assertEqual(ask_one(made(1, 0, 2, 2), made(1, 1, 3, 2), question), [-3])

    def test_a_wrong_length_is_told_before_the_rest(self):
        for t, kind in ((0, made(1, 0, 2, 2)), (1, made(1, 1, 2, 0))):
            for row in ([], [0], [9], [0, 0, 0], [9, 9, 9], [LARGEST] * 100):
                for question in (number_of, next_of, previous_of):
                    self.assertEqual(ask_one(kind, question(t, row)), [-2])
                if len(row) > 2:
                    self.assertEqual(ask_one(kind, beginning(t, row)), [-2])

    def test_no_rows_is_told_before_too_few_words(self):
        self.assertEqual(ask_one(made(1, 0, 2, 0), draw(0, [])), [-5])
        self.assertEqual(ask_one(made(1, 0, 2, 2), draw(0, [])), [-6])

    def test_fair(self):
        self.assertEqual(ask_one(fair(0, [])), [-1])
        self.assertEqual(ask_one(fair(2 ** 62 + 1, [])), [-1])
        self.assertEqual(ask_one(fair(2 ** 62, [])), [-6])
        self.assertEqual(ask_one(fair(2 ** 62, [1])), [-6])


# Kinds that fill the room, told apart by their rows; kind 4 has size 2, kind 5 size 3.
FILLED = [
    made(1, 0, 3, 3), made(2, 1, 5, 3), made(9, 2, 4, 3, 0, 3), made(7, 3, 4), both(4, 0, 1), both(5, 4, 2),
]

# Each refusal of each call, on a room filled so.
REFUSED = [
    (made(1, 0, 21, 1), -1), (made(1, 1, 20, 20), -4), (made(2, 2, 21, 1), -1), (made(3, 3, 1, 21), -1),
    (made(4, 4, [11]), -1), (made(4, 4, [0] * 9), -1), (made(5, 5, 8), -1), (made(6, 0, 8), -1), (made(7, 1, 8), -1),
    (made(8, 2, 61, 1, 1), -1), (made(9, 3, 201, 1, 1, 1), -1), (made(9, 4, 190, 20, 0, 19), -4),
    (made(10, 5, 13, 1), -1), (made(11, 0, 21, 1, 1), -1), (made(12, 1, 1, 1, 2, 1, [0]), -1),
    (made(12, 1, 1, 1, 1, 1, []), -1), (made(13, 2, [0] * 8), -1), (made(14, 3, 1, 0, 0, []), -1),
    (made(15, 4, [2]), -1), (made(1, 6, 1, 1), -1), (made(5, LARGEST, 1), -1),
    (both(6, 0, 0), -1), (both(0, 6, 0), -3), (both(0, 0, LARGEST), -3), (both(1, 0, 3), -2), (both(3, 3, 0), -2),
    (both(4, 4, 4), -2), (both(0, 5, 0), -2), (both(5, 1, 5), -2),
    (either(6, 0, 0), -1), (either(0, 6, 0), -3), (either(1, 0, 3), -2), (either(4, 4, 4), -2), (either(5, 5, 0), -2),
    (less(LARGEST, 0, 0), -1), (less(0, 0, 6), -3), (less(3, 3, 0), -2), (less(4, 4, 4), -2), (less(0, 0, 5), -2),
    (then(6, 0, 0), -1), (then(0, LARGEST, 0), -3), (then(4, 4, 4), -2), (then(5, 5, 0), -2),
    (begins(6, 0, []), -1), (begins(0, 6, []), -3), (begins(0, 0, [0, 0, 0, 0]), -2), (begins(5, 3, [0] * 5), -2),
    (tell(6), -3), (row_of(6, 0), -3), (row_of(0, 27), -5), (row_of(5, ENDLESS), -5), (number_of(6, [0]), -3),
    (number_of(0, [0, 0]), -2), (next_of(6, []), -3), (next_of(0, [0]), -2), (next_of(0, [2, 2, 2]), -5),
    (previous_of(LARGEST, []), -3), (previous_of(3, [0, 0, 0]), -2), (previous_of(0, [0, 0, 0]), -5),
    (beginning(6, []), -3), (beginning(0, [0, 0, 0, 0]), -2), (rows_from(6, 0, 1), -3), (rows_from(0, 0, 21), -1),
    (draw(6, [1]), -3), (draw(0, []), -6), (fair(0, [1]), -1), (fair(2, []), -6), (alike(0, 6), -3), (alike(0, 3), -2),
    (drop(6), -3), (drop(LARGEST), -3),
]


class NothingChanged(unittest.TestCase):
    def looks(self):
        """Questions that show each kind whole: what it is, and its rows."""
        shown = [tell(t) for t in range(6)]
        for t, many in enumerate((27, 10, 12, 5, 27, 27)):
            shown += [rows_from(t, i, 20) for i in range(0, many, 20)]
        return shown

    def test_each_call_is_here(self):
        self.assertEqual({call[0] for call, refusal in REFUSED}, set(range(1, 32)))
        self.assertEqual({refusal for call, refusal in REFUSED}, {-1, -2, -3, -4, -5, -6})

    def test_after_a_refusal(self):
        before = ask_many(FILLED, self.looks())
        self.assertEqual(before[:6], [
            [0, 3, 3, 1, 27], [0, 3, 5, 1, 10], [0, 3, 4, 1, 12], [0, 4, 4, 1, 5], [0, 3, 3, 2, 1], [0, 3, 3, 3, 0]])
        for call, refusal in REFUSED:
            self.assertEqual(ask_one(*FILLED, call), [refusal], call)
            self.assertEqual(ask_many([*FILLED, call], self.looks()), before, call)

    def test_after_a_fault(self):
        call = number_of(0, [0, 1, 3])
        self.assertEqual(ask_one(*FILLED, call), [-9, 2])
        self.assertEqual(ask_many([*FILLED, call], self.looks()), ask_many(FILLED, self.looks()))

    def test_after_too_many_rows_together(self):
        calls = [made(1, 0, 10, 20), made(9, 1, 70, 18, 0, 16), made(9, 2, 89, 18, 0, 14), made(1, 3, 1, 2)]
        shown = [tell(t) for t in range(6)] + [row_of(t, 1) for t in range(6)]
        before = ask_many(calls, shown)
        for refused in (then(0, 0, 0), then(3, 0, 0), then(4, 0, 0), either(1, 1, 2), either(2, 1, 2), either(5, 2, 1)):
            self.assertEqual(ask_one(*calls, refused), [-4])
            self.assertEqual(ask_many([*calls, refused], shown), before)

    def test_a_free_number_stays_free(self):
        for call, refusal in REFUSED:
            if call[0] <= 15:
                self.assertEqual(ask(call, *[tell(t) for t in range(6)]), [[refusal]] + [[-3]] * 6, call)
            elif call[0] != 29:
                answered = ask(call, *[tell(t) for t in range(6)])
                self.assertEqual(answered[0], [-1] if refusal == -1 and call[0] <= 20 else [-3], call)
                self.assertEqual(answered[1:], [[-3]] * 6, call)

    def test_several_in_a_row(self):
        refused = [call for call, refusal in REFUSED][::6]
        self.assertEqual(ask_many([*FILLED, *refused], self.looks()), ask_many(FILLED, self.looks()))


if __name__ == "__main__":
    unittest.main()

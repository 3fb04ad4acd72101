"""Refusals: each one, the one told first where two are due, and that nothing is changed by them."""

import unittest

from helpers import ask, ask_one, both, made
from rankroom.kind import always, build
from rankroom.room import Room

LARGEST = 4294967295


class TooManyRows(unittest.TestCase):
    def test_words(self):
        self.assertEqual(ask_one(made(1, 0, 20, 8)), [0, 20, 2 ** 60])
        self.assertEqual(ask_one(made(1, 0, 20, 9)), [-4])
        self.assertEqual(ask_one(made(1, 0, 15, 17)), [0, 15, 17 ** 15])
        self.assertEqual(ask_one(made(1, 0, 18, 11)), [-4])
        self.assertEqual(ask_one(made(1, 0, 20, 20)), [-4])

    def test_words_all(self):
        for n in range(21):
            for k in range(21):
                answer = [0, n, k ** n] if k ** n < 2 ** 62 else [-4]
                self.assertEqual(ask_one(made(1, 0, n, k)), answer)

    def test_shares(self):
        # The shares whose rows are nearest to 2 to the 62nd, on both sides.
        self.assertEqual(ask_one(made(9, 0, 84, 18, 0, 17)), [0, 18, 2 ** 62 - 182486903780068])
        self.assertEqual(ask_one(made(9, 0, 113, 17, 0, 15)), [-4])
        self.assertEqual(ask_one(made(9, 0, 190, 20, 0, 19)), [-4])

    def test_the_limit_itself(self):
        # No call comes to the limit itself: the kinds here are made straight.
        just = build(31, 4, 1, 0, lambda place, state: [(x, 0) for x in range(4)], always)
        self.assertEqual(just.total, 2 ** 62)
        room = Room()
        self.assertEqual(room.keep(0, just), [-4])
        self.assertEqual(room.kinds, {})
        below = build(62, 2, 1, 0, lambda place, state: [(0, state), (1, 1)], lambda state: state == 1)
        self.assertEqual(below.total, 2 ** 62 - 1)
        self.assertEqual(room.keep(0, below), [0, 62, 2 ** 62 - 1])

    def test_a_bound_is_told_before(self):
        self.assertEqual(ask_one(made(1, 6, 20, 20)), [-1])
        self.assertEqual(ask_one(made(1, 0, 21, 20)), [-1])
        self.assertEqual(ask_one(made(9, 6, 190, 20, 0, 19)), [-1])
        self.assertEqual(ask_one(made(9, 0, 201, 20, 0, 19)), [-1])
        self.assertEqual(ask_one(made(9, LARGEST, 190, 20, 0, 19)), [-1])

    def test_a_kind_refused_is_none(self):
        self.assertEqual(ask(made(1, 0, 20, 20), both(1, 0, 0)), [[-4], [-3]])


class BothRefused(unittest.TestCase):
    def test_no_kind(self):
        kind = made(1, 0, 2, 2)
        self.assertEqual(ask_one(both(0, 0, 0)), [-3])
        self.assertEqual(ask_one(kind, both(1, 0, 1)), [-3])
        self.assertEqual(ask_one(kind, both(1, 1, 0)), [-3])
        self.assertEqual(ask_one(kind, both(0, 0, 5)), [-3])
        for above in (6, LARGEST):
            self.assertEqual(ask_one(kind, both(1, 0, above)), [-3])
            self.assertEqual(ask_one(kind, both(1, above, 0)), [-3])

    def test_not_rows_as_long(self):
        self.assertEqual(ask_one(made(1, 0, 2, 2), made(1, 1, 3, 2), both(2, 0, 1)), [-2])
        self.assertEqual(ask_one(made(1, 0, 2, 2), made(1, 1, 3, 2), both(2, 1, 0)), [-2])
        self.assertEqual(ask_one(made(1, 0, 0, 2), made(1, 1, 1, 2), both(2, 1, 0)), [-2])

    def test_not_as_long_without_rows(self):
        self.assertEqual(ask_one(made(1, 0, 2, 0), made(1, 1, 3, 0), both(2, 0, 1)), [-2])
        self.assertEqual(ask_one(made(10, 0, 0, 1), made(1, 1, 1, 0), both(2, 0, 1)), [-2])
        self.assertEqual(ask_one(made(1, 0, 3, 0), made(1, 1, 3, 0), both(2, 0, 1)), [0, 3, 0])

    def test_walks_are_one_longer(self):
        walk = made(14, 0, 3, 0, 2, [3, 3])
        self.assertEqual(ask_one(made(14, 0, 3, 2, 2, [3, 3]), made(1, 1, 3, 2), both(2, 0, 1)), [-2])
        self.assertEqual(ask_one(walk, made(1, 1, 4, 2), both(2, 0, 1)), [0, 4, 8])

    def test_size_above_three(self):
        kind = made(1, 0, 2, 2)
        two = both(1, 0, 0)
        three = both(2, 1, 0)
        self.assertEqual(ask(kind, two, three)[1:], [[0, 2, 4], [0, 2, 4]])
        self.assertEqual(ask_one(kind, two, both(2, 0, 1)), [0, 2, 4])
        self.assertEqual(ask_one(kind, two, both(3, 1, 1)), [-2])
        self.assertEqual(ask_one(kind, two, three, both(3, 2, 0)), [-2])
        self.assertEqual(ask_one(kind, two, three, both(3, 0, 2)), [-2])
        self.assertEqual(ask_one(kind, two, three, both(3, 2, 1)), [-2])
        self.assertEqual(ask_one(kind, two, three, both(3, 2, 2)), [-2])

    def test_size_above_three_without_rows(self):
        kind = made(1, 0, 2, 0)
        self.assertEqual(ask_one(kind, both(1, 0, 0), both(2, 1, 1)), [-2])

    def test_a_kind_made_anew_has_size_one(self):
        kind = made(1, 0, 2, 2)
        self.assertEqual(ask_one(kind, both(0, 0, 0), both(0, 0, 0)), [-2])
        self.assertEqual(ask_one(kind, both(0, 0, 0), kind, both(0, 0, 0)), [0, 2, 4])

    def test_the_one_told_first(self):
        short = made(1, 0, 1, 2)
        long = made(1, 1, 2, 2)
        self.assertEqual(ask_one(both(6, 0, 1)), [-1])
        self.assertEqual(ask_one(short, both(LARGEST, 0, 1)), [-1])
        self.assertEqual(ask_one(short, long, both(6, 0, 1)), [-1])
        self.assertEqual(ask_one(long, both(2, 1, 1), both(6, 2, 2)), [-1])
        self.assertEqual(ask_one(long, both(2, 1, 1), both(3, 2, 0)), [-3])
        self.assertEqual(ask_one(long, both(2, 1, 1), both(3, 6, 2)), [-3])


# Kinds that fill the room, told apart by their rows; kind 4 has size 2, kind 5 size 3.
FILLED = [
    made(1, 0, 3, 3), made(2, 1, 5, 3), made(9, 2, 4, 3, 0, 3), made(7, 3, 4), both(4, 0, 1), both(5, 4, 2),
]

# Each refusal of each call, on a room filled so.
REFUSED = [
    (made(1, 0, 21, 1), -1), (made(1, 1, 20, 20), -4), (made(2, 2, 21, 1), -1), (made(3, 3, 1, 21), -1),
    (made(4, 4, [11]), -1), (made(4, 4, [0] * 9), -1), (made(5, 5, 8), -1), (made(6, 0, 8), -1), (made(7, 1, 8), -1),
    (made(8, 2, 61, 1, 1), -1), (made(9, 3, 201, 1, 1, 1), -1), (made(9, 4, 190, 20, 0, 19), -4),
    (made(10, 5, 13, 1), -1), (made(11, 0, 21, 1, 1), -1), (made(12, 1, 1, 1, 2, 1, [0]), -1),
    (made(12, 1, 1, 1, 1, 1, []), -1), (made(13, 2, [0] * 8), -1), (made(14, 3, 1, 0, 0, []), -1),
    (made(15, 4, [2]), -1), (made(1, 6, 1, 1), -1), (made(5, LARGEST, 1), -1),
    (both(6, 0, 0), -1), (both(0, 6, 0), -3), (both(0, 0, LARGEST), -3), (both(1, 0, 3), -2), (both(3, 3, 0), -2),
    (both(4, 4, 4), -2), (both(0, 5, 0), -2), (both(5, 1, 5), -2),
]


class NothingChanged(unittest.TestCase):
    def looks(self):
        """Calls that show each kind's length, rows and size, without calls that are told later."""
        shown = [both(t, t, t) for t in range(4)]
        shown += [both(0, 4, 1), both(0, 5, 1), both(0, 4, 4), both(0, 2, 1)]
        return shown

    def test_after_a_refusal(self):
        before = ask(*FILLED, *self.looks())
        self.assertEqual(before[6:10], [[0, 3, 27], [0, 3, 10], [0, 3, 12], [0, 4, 5]])
        for call, refusal in REFUSED:
            answered = ask(*FILLED, call, *self.looks())
            self.assertEqual(answered[6], [refusal], call)
            self.assertEqual(answered[:6] + answered[7:], before, call)

    def test_a_free_number_stays_free(self):
        for call, refusal in REFUSED:
            if call[0] != 16:
                self.assertEqual(ask(call, *[both(0, t, t) for t in range(6)]), [[refusal]] + [[-3]] * 6, call)

    def test_several_in_a_row(self):
        refused = [call for call, refusal in REFUSED if refusal == -1][:20]
        answered = ask(*FILLED, *refused, *self.looks())
        self.assertEqual(answered[6 + len(refused):], ask(*FILLED, *self.looks())[6:])


if __name__ == "__main__":
    unittest.main()

"""Calls 17 to 20, and 16 among them: the rows that they should have, and as many (promise 3)."""

import itertools
import random
import unittest

from helpers import (
    LARGEST, ask, ask_many, ask_one, begins, both, drop, either, less, made, number_of, row_of, rows_from, tell, then)
from model import BY_LENGTH, POOL, begun, kind_of, one_of, put_together, random_making


def making(t, at):
    number, *given = POOL[at]
    return made(number, t, *given)


def rows_asked(calls, t, many):
    """Kind t's rows behind these calls, asked for 20 at a time."""
    answered = ask_many(calls, [rows_from(t, i, 20) for i in range(0, many + 1, 20)])
    found = []
    for answer in answered:
        at = 1
        while at < len(answer):
            found.append(tuple(answer[at + 1:at + 1 + answer[at]]))
            at += 1 + answer[at]
    return found


class AgainstAllRows(unittest.TestCase):
    def check(self, calls, t, kind):
        """That kind t, which the last call makes, is this one: what that call answers, what is told, and each row."""
        answered = ask(*calls, tell(t))
        self.assertEqual(answered[-2], [0, kind.length, len(kind.rows)], calls)
        self.assertEqual(answered[-1], [0, kind.length, kind.letters, kind.size, len(kind.rows)], calls)
        self.assertEqual(rows_asked(calls, t, len(kind.rows)), kind.rows, calls)

    def check_pairs(self, way):
        for places in BY_LENGTH.values():
            for i, j in itertools.product(places, repeat=2):
                kind = put_together(way, one_of(*POOL[i]), one_of(*POOL[j]))
                self.check([making(0, i), making(1, j), made(way, 2, 0, 1)], 2, kind)

    def test_both(self):
        self.check_pairs(16)

    def test_either(self):
        self.check_pairs(17)

    def test_less(self):
        self.check_pairs(18)

    def test_then(self):
        for i, j in itertools.product(range(len(POOL)), repeat=2):
            kind = put_together(19, one_of(*POOL[i]), one_of(*POOL[j]))
            if len(kind.rows) <= 60:
                self.check([making(0, i), making(1, j), then(2, 0, 1)], 2, kind)

    def test_then_with_many_rows(self):
        for first, second in [
            ((1, 4, 3), (9, 4, 3, 0, 5)), ((3, 4, 3), (3, 4, 3)), ((6, 4), (5, 4)), ((1, 1, 6), (1, 3, 4)),
        ]:
            calls = [made(first[0], 0, *first[1:]), made(second[0], 1, *second[1:]), then(2, 0, 1)]
            self.check(calls, 2, put_together(19, one_of(*first), one_of(*second)))

    def test_begins(self):
        source = random.Random(20)
        for at, given in enumerate(POOL):
            kind = one_of(*given)
            beginnings = {row[:many] for row in kind.rows for many in range(kind.length + 1)} | {()}
            for turn in range(20):
                # Most of these no row begins with.
                numbers = [source.choice([*range(kind.letters + 2), LARGEST]) for place in range(kind.length)]
                beginnings.add(tuple(numbers[:source.randint(0, kind.length)]))
            for p in sorted(beginnings):
                self.check([making(0, at), begins(1, 0, p)], 1, begun(kind, p))

    def test_three(self):
        source = random.Random(17)
        ways = set()
        for turn in range(400):
            calls, used = random_making(source, 3, 120)
            ways |= set(itertools.pairwise(used))
            self.check(calls, 0, kind_of(calls))
        self.assertEqual(ways, set(itertools.product([16, 17, 18, 19, 20], repeat=2)))

    def test_with_itself(self):
        for at, given in enumerate(POOL):
            kind = one_of(*given)
            for way in (16, 17, 18):
                self.check([making(0, at), made(way, 1, 0, 0)], 1, put_together(way, kind, kind))
            if len(kind.rows) <= 10:
                self.check([making(0, at), then(1, 0, 0)], 1, put_together(19, kind, kind))

    def test_put_together_with_itself(self):
        calls = [made(3, 0, 4, 3), made(1, 1, 3, 3)]
        for way, answer in [(16, [0, 3, 10]), (17, [0, 3, 37]), (18, [0, 3, 10]), (19, [0, 6, 540])]:
            together = made(way, 2, 0, 1)
            self.assertEqual(ask_one(*calls, together), answer)
            if way != 19:
                self.assertEqual(ask_one(*calls, together, both(3, 2, 0))[0], 0)
                self.assertEqual(ask_one(*calls, together, either(3, 2, 1))[0], 0)
            self.assertEqual(ask_one(*calls, together, both(3, 2, 2)), [-2])


class ByHand(unittest.TestCase):
    def test_either(self):
        calls = [made(1, 0, 2, 2), made(2, 1, 4, 2), either(2, 0, 1)]
        self.assertEqual(ask_one(*calls), [0, 2, 9])
        rows = [(0, 0), (0, 1), (0, 2), (0, 3), (1, 0), (1, 1), (1, 2), (1, 3), (2, 3)]
        self.assertEqual(rows_asked(calls, 2, 9), rows)

    def test_less(self):
        calls = [made(1, 0, 2, 2), made(2, 1, 4, 2)]
        self.assertEqual(rows_asked([*calls, less(2, 0, 1)], 2, 3), [(0, 0), (1, 0), (1, 1)])
        self.assertEqual(rows_asked([*calls, less(2, 1, 0)], 2, 5), [(0, 2), (0, 3), (1, 2), (1, 3), (2, 3)])

    def test_then(self):
        calls = [made(2, 0, 3, 2), made(11, 1, 2, 2, 0)]
        self.assertEqual(rows_asked([*calls, then(2, 0, 1)], 2, 3), [(0, 1, 1, 0), (0, 2, 1, 0), (1, 2, 1, 0)])
        self.assertEqual(rows_asked([*calls, then(2, 1, 0)], 2, 3), [(1, 0, 0, 1), (1, 0, 0, 2), (1, 0, 1, 2)])

    def test_begins(self):
        bags = made(3, 0, 3, 2)
        self.assertEqual(rows_asked([bags, begins(1, 0, [])], 1, 6), [(0, 0), (0, 1), (0, 2), (1, 1), (1, 2), (2, 2)])
        self.assertEqual(rows_asked([bags, begins(1, 0, [1])], 1, 2), [(1, 1), (1, 2)])
        self.assertEqual(rows_asked([bags, begins(1, 0, [1, 2])], 1, 1), [(1, 2)])
        for none in ([3], [LARGEST], [1, 0], [2, 3], [1, LARGEST]):
            self.assertEqual(ask(bags, begins(1, 0, none), tell(1))[1:], [[0, 2, 0], [0, 2, 3, 1, 0]])
        for long in ([0, 0, 0], [3, 3, 3], [0] * 3900):
            self.assertEqual(ask_one(bags, begins(1, 0, long)), [-2])

    def test_a_number_at_the_other_kinds_letters(self):
        calls = [made(1, 0, 2, 1), made(1, 1, 2, 3)]
        self.assertEqual(ask_one(*calls, either(2, 0, 1), number_of(2, [2, 2])), [0, 8])
        self.assertEqual(ask_one(*calls, less(2, 1, 0), number_of(2, [2, 2])), [0, 7])
        self.assertEqual(ask_one(*calls, less(2, 0, 1), tell(2)), [0, 2, 1, 2, 0])
        self.assertEqual(ask_one(*calls, then(2, 0, 1), number_of(2, [0, 0, 2, 2])), [0, 8])
        self.assertEqual(ask_one(*calls, then(2, 1, 0), number_of(2, [2, 2, 0, 0])), [0, 8])
        self.assertEqual(ask_one(*calls, then(2, 1, 0), number_of(2, [2, 2, 0, 1])), [-9, 3])
        self.assertEqual(ask_one(*calls, then(2, 0, 1), number_of(2, [0, 1, 0, 0])), [-9, 1])

    def test_without_rows(self):
        calls = [made(1, 0, 2, 3), made(1, 1, 2, 0)]
        for call, answer in [
            (both(2, 0, 1), [0, 2, 0]), (either(2, 0, 1), [0, 2, 9]), (either(2, 1, 0), [0, 2, 9]),
            (less(2, 0, 1), [0, 2, 9]), (less(2, 1, 0), [0, 2, 0]), (then(2, 0, 1), [0, 4, 0]),
            (then(2, 1, 0), [0, 4, 0]),
            (begins(2, 1, [0]), [0, 2, 0]), (begins(2, 1, []), [0, 2, 0]), (either(2, 1, 1), [0, 2, 0]),
            (less(2, 1, 1), [0, 2, 0]), (then(2, 1, 1), [0, 4, 0]),
        ]:
            self.assertEqual(ask_one(*calls, call), answer, call)
        # Where nothing of a or b goes on, nothing of the two does, from the first place on.
        self.assertEqual(ask_one(*calls, then(2, 0, 1), number_of(2, [0, 0, 0, 0])), [-9, 0])

    def test_length_nought(self):
        empty = made(1, 0, 0, 4)
        none = made(10, 1, 0, 1)
        for call, answer in [
            (both(2, 0, 1), [0, 0, 0]), (either(2, 0, 1), [0, 0, 1]), (either(2, 1, 0), [0, 0, 1]),
            (either(2, 1, 1), [0, 0, 0]), (either(2, 0, 0), [0, 0, 1]), (less(2, 0, 1), [0, 0, 1]),
            (less(2, 1, 0), [0, 0, 0]),
            (less(2, 0, 0), [0, 0, 0]), (then(2, 0, 0), [0, 0, 1]), (then(2, 0, 1), [0, 0, 0]),
            (then(2, 1, 0), [0, 0, 0]),
            (begins(2, 0, []), [0, 0, 1]), (begins(2, 1, []), [0, 0, 0]), (begins(2, 0, [0]), [-2]),
        ]:
            self.assertEqual(ask_one(empty, none, call), answer, call)

    def test_then_with_length_nought(self):
        calls = [made(1, 0, 0, 4), made(10, 1, 0, 1), made(3, 2, 3, 2)]
        for call, answer in [
            (then(3, 0, 2), [0, 2, 4, 2, 6]), (then(3, 2, 0), [0, 2, 4, 2, 6]), (then(3, 1, 2), [0, 2, 3, 2, 0]),
            (then(3, 2, 1), [0, 2, 3, 2, 0]),
        ]:
            self.assertEqual(ask_one(*calls, call, tell(3)), answer, call)
        self.assertEqual(ask_one(*calls, then(3, 0, 2), row_of(3, 4)), [0, 1, 2])
        self.assertEqual(ask_one(*calls, then(3, 2, 0), row_of(3, 4)), [0, 1, 2])


class NumbersForKinds(unittest.TestCase):
    """t being a or b, and a or b made anew or dropped since."""

    CALLS = [made(1, 0, 3, 3), made(3, 1, 4, 3)]

    def test_t_is_a_or_b(self):
        for way in (16, 17, 18, 19):
            for a, b in ((0, 1), (1, 0), (0, 0)):
                elsewhere = rows_asked([*self.CALLS, made(way, 5, a, b)], 5, 999)
                told = ask_one(*self.CALLS, made(way, 5, a, b), tell(5))
                for t in (a, b):
                    calls = [*self.CALLS, made(way, t, a, b)]
                    self.assertEqual(rows_asked(calls, t, 999), elsewhere)
                    self.assertEqual(ask_one(*calls, tell(t)), told)

    def test_begins_with_t_being_a(self):
        for p in ([], [1], [1, 2, 2], [9]):
            elsewhere = rows_asked([*self.CALLS, begins(5, 1, p)], 5, 99)
            self.assertEqual(rows_asked([*self.CALLS, begins(1, 1, p)], 1, 99), elsewhere)

    def test_the_others_stay(self):
        for call in (both(2, 0, 1), either(2, 0, 1), less(2, 0, 1), then(2, 0, 1), begins(2, 0, [1])):
            for t in (0, 1):
                before = rows_asked(self.CALLS, t, 30)
                self.assertEqual(rows_asked([*self.CALLS, call], t, 30), before)

    def test_made_anew_or_dropped_since(self):
        since = [
            [made(1, 0, 3, 1)], [made(1, 1, 1, 1)], [made(5, 0, 2), made(7, 1, 3)], [drop(0)], [drop(1)],
            [drop(0), drop(1)],
            [either(0, 0, 1)], [less(1, 0, 0)], [begins(0, 0, [2]), begins(1, 1, [3])], [drop(0), made(2, 0, 5, 3)],
        ]
        for call in (both(2, 0, 1), either(2, 0, 1), less(2, 0, 1), then(2, 0, 1), begins(2, 0, [1])):
            calls = [*self.CALLS, call]
            rows = rows_asked(calls, 2, 999)
            told = ask_one(*calls, tell(2))
            for more in since:
                self.assertEqual(rows_asked([*calls, *more], 2, 999), rows, (call, more))
                self.assertEqual(ask_one(*calls, *more, tell(2)), told, (call, more))

    def test_size_of_a_kind_made_anew(self):
        calls = [made(1, 0, 2, 2), either(0, 0, 0), less(0, 0, 0)]
        self.assertEqual(ask(*calls)[1:], [[0, 2, 4], [-2]])
        calls = [made(1, 0, 2, 2), made(1, 1, 2, 2), either(0, 0, 1), less(0, 0, 1), tell(0), made(1, 0, 2, 2), tell(0)]
        self.assertEqual(ask(*calls)[2:], [[0, 2, 4], [0, 2, 0], [0, 2, 2, 3, 0], [0, 2, 4], [0, 2, 2, 1, 4]])

    def test_drop(self):
        calls = [made(1, t, 2, t + 1) for t in range(6)]
        for t in range(6):
            answered = ask(*calls, drop(t), *[tell(other) for other in range(6)], drop(t), made(1, t, 1, 1), tell(t))
            expected = [[0, 2, other + 1, 1, (other + 1) ** 2] if other != t else [-3] for other in range(6)]
            self.assertEqual(answered[6:], [[0], *expected, [-3], [0, 1, 1], [0, 1, 1, 1, 1]])


if __name__ == "__main__":
    unittest.main()

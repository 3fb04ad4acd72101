"""Calls 21 to 27: rows and their numbers, of all fifteen and of kinds put together, against going through all rows."""

import itertools
import random
import unittest

from helpers import (
    LARGEST, ask, ask_many, ask_one, begins, beginning, both, either, less, made, next_of, number_of, previous_of,
    row_of, rows_from, tell, then)
from model import POOL, ask_kind, kind_of, random_making

ENDLESS = 9223372036854775807


def makings():
    """Each small kind of the fifteen alone, and many put together of two and of three; with their names."""
    found = [[made(number, 0, *given)] for number, *given in POOL]
    source = random.Random(21)
    for turn in range(150):
        found.append(random_making(source, 2 + turn % 2, 150)[0])
    return found


def other_rows(kind, source, many):
    """Rows as long as the kind's, most of them none of it, with numbers at and above the letters."""
    numbers = [*range(kind.letters), kind.letters, kind.letters + 1, LARGEST]
    found = []
    for turn in range(many):
        row = [source.choice(numbers) for place in range(kind.length)]
        if kind.rows and turn % 2 == 0:
            # So far as this place it's one of the kind's rows.
            same = source.randint(0, kind.length)
            row = [*source.choice(kind.rows)[:same], *row[same:]]
        found.append(row)
    return found


class AgainstAllRows(unittest.TestCase):
    @classmethod
    def setUpClass(cls):
        cls.makings = [(making, kind_of(making)) for making in makings()]

    def check(self, making, kind, questions):
        answered = ask_many(making, questions)
        for question, answer in zip(questions, answered, strict=True):
            given = question[2:] if question[0] in (21, 22, 27) else [question[3:]]
            self.assertEqual(answer, ask_kind(kind, question[0], given), (making, question))

    def test_that_many_have_rows(self):
        put_together = self.makings[len(POOL):]
        self.assertGreater(len([kind for making, kind in put_together if len(kind.rows) > 1]), 60)
        self.assertGreater(len([kind for making, kind in put_together if not kind.rows]), 10)
        self.assertEqual({kind.size for making, kind in put_together}, {2, 3})
        used = {call[0] for making, kind in put_together for call in making}
        self.assertEqual(used, set(range(1, 21)))

    def test_told(self):
        for making, kind in self.makings:
            self.check(making, kind, [tell(0)])

    def test_rows_and_numbers(self):
        for making, kind in self.makings:
            total = len(kind.rows)
            questions = [row_of(0, i) for i in (*range(total + 2), ENDLESS)]
            for row in kind.rows:
                questions += [number_of(0, row), next_of(0, row), previous_of(0, row), beginning(0, row)]
            self.check(making, kind, questions)

    def test_rows_of_numbers(self):
        for making, kind in self.makings:
            total = len(kind.rows)
            questions = []
            for i in {0, 1, total // 2, max(0, total - 20), max(0, total - 1), total, total + 1, ENDLESS}:
                questions += [rows_from(0, i, m) for m in (0, 1, 2, 19, 20, 21, LARGEST)]
            self.check(making, kind, questions)

    def test_rows_that_are_none(self):
        source = random.Random(23)
        for making, kind in self.makings:
            questions = []
            for row in other_rows(kind, source, 40):
                questions += [number_of(0, row), next_of(0, row), previous_of(0, row), beginning(0, row)]
            self.check(making, kind, questions)

    def test_beginnings(self):
        source = random.Random(26)
        for making, kind in self.makings:
            questions = [beginning(0, [])]
            for row in other_rows(kind, source, 20) + kind.rows[:20]:
                questions += [beginning(0, row[:many]) for many in range(len(row))]
                questions.append(beginning(0, [*row, 0]))
            self.check(making, kind, questions)

    def test_rows_too_short_and_too_long(self):
        for making, kind in self.makings:
            questions = []
            for row in kind.rows[:3] + [(0,) * kind.length]:
                for wrong in ([*row, 0], [*row, *row, 0], row[1:], row[:-1]):
                    if len(wrong) != kind.length:
                        questions += [number_of(0, wrong), next_of(0, wrong), previous_of(0, wrong)]
            self.check(making, kind, questions)
            self.assertEqual(set(map(tuple, ask_many(making, questions))), {(-2,)})


class Promises(unittest.TestCase):
    """The promises 1 and 2 in their own words, by the answers alone."""

    @classmethod
    def setUpClass(cls):
        cls.makings = makings()

    def test_rows_and_numbers_go_together(self):
        for making in self.makings:
            total = ask_one(*making)[2]
            rows = [answer[1:] for answer in ask_many(making, [row_of(0, i) for i in range(total)])]
            self.assertEqual(rows, sorted(rows))
            self.assertEqual(len(set(map(tuple, rows))), total)
            self.assertEqual(ask_many(making, [number_of(0, row) for row in rows]), [[0, i] for i in range(total)])
            behind = [[0, *row] for row in rows[1:]] + [[-5]]
            self.assertEqual(ask_many(making, [next_of(0, row) for row in rows]), behind[:total])
            before = [[-5]] + [[0, *row] for row in rows]
            self.assertEqual(ask_many(making, [previous_of(0, row) for row in rows]), before[:total])
            for i in range(0, total, 7):
                together = [x for row in rows[i:i + 20] for x in [len(row), *row]]
                self.assertEqual(ask_one(*making, rows_from(0, i, 20)), [0, *together])

    def test_a_fault_is_the_first_place_with_which_nothing_goes_on(self):
        source = random.Random(2)
        faults = []
        for making in self.makings:
            kind = kind_of(making)
            for row in other_rows(kind, source, 12):
                answer = ask_one(*making, number_of(0, row))
                if answer[0] == 0:
                    self.assertEqual(ask_one(*making, begins(0, 0, row)), [0, len(row), 1])
                    continue
                self.assertEqual(answer[0], -9)
                place = answer[1]
                faults.append(place)
                if kind.rows:
                    self.assertGreater(ask_one(*making, begins(0, 0, row[:place]))[2], 0)
                    self.assertEqual(ask_one(*making, begins(0, 0, row[:place + 1]))[2], 0)
                else:
                    self.assertEqual(place, 0)
        self.assertGreaterEqual(set(faults), {0, 1, 2, 3})


class ByHand(unittest.TestCase):
    BAGS = made(3, 0, 3, 2)  # 00 01 02 11 12 22
    ZIGZAGS = made(7, 0, 4)  # 0213 0312 1203 1302 2301

    def test_told(self):
        for making, expected in [
            (made(1, 0, 3, 5), [3, 5, 1, 125]), (made(2, 0, 5, 3), [3, 5, 1, 10]), (made(3, 0, 5, 3), [3, 5, 1, 35]),
            (made(4, 0, [2, 0, 1]), [3, 3, 1, 3]), (made(5, 0, 4), [4, 4, 1, 9]), (made(6, 0, 4), [4, 4, 1, 10]),
            (made(7, 0, 4), [4, 4, 1, 5]), (made(8, 0, 5, 3, 4), [3, 5, 1, 4]), (made(9, 0, 5, 3, 1, 4), [3, 5, 1, 6]),
            (made(10, 0, 4, 2), [4, 2, 1, 7]), (made(11, 0, 4, 9, 2), [4, 2, 1, 3]),
            (made(12, 0, 1, 6, 1, 2, [0, 0, 0, 1, 1, 1]), [2, 6, 1, 9]), (made(13, 0, [0, 1, 0]), [3, 3, 1, 3]),
            (made(14, 0, 2, 3, 3, [7, 7, 7]), [3, 3, 1, 27]), (made(15, 0, [15] * 4), [4, 4, 1, 3]),
            (made(1, 0, 0, 0), [0, 0, 1, 1]), (made(1, 0, 20, 0), [20, 0, 1, 0]), (made(4, 0, [0] * 8), [0, 8, 1, 1]),
            (made(2, 0, 20, 0), [0, 20, 1, 1]), (made(8, 0, 1, 0, 19), [0, 20, 1, 0]),
            (made(11, 0, 0, 0, 1), [0, 2, 1, 0]),
            (made(9, 0, 0, 0, 19, 0), [0, 1, 1, 1]), (made(10, 0, 0, 12), [0, 12, 1, 0]),
        ]:
            self.assertEqual(ask_one(making, tell(0)), [0, *expected], making)

    def test_told_of_kinds_put_together(self):
        making = [made(1, 0, 2, 3), made(2, 1, 5, 2)]
        for call, expected in [
            (both(2, 0, 1), [2, 3, 2, 3]), (both(2, 1, 0), [2, 3, 2, 3]), (either(2, 0, 1), [2, 5, 2, 16]),
            (either(2, 1, 0), [2, 5, 2, 16]), (less(2, 0, 1), [2, 3, 2, 6]), (less(2, 1, 0), [2, 5, 2, 7]),
            (then(2, 0, 1), [4, 5, 2, 90]), (then(2, 1, 0), [4, 5, 2, 90]), (begins(2, 1, [1]), [2, 5, 1, 3]),
            (begins(2, 1, []), [2, 5, 1, 10]), (begins(2, 1, [1, 1]), [2, 5, 1, 0]),
        ]:
            self.assertEqual(ask_one(*making, call, tell(2)), [0, *expected], call)
        for calls, expected in [
            ([either(2, 0, 1), less(2, 2, 0)], [2, 5, 3, 7]), ([either(2, 0, 1), then(2, 0, 2)], [4, 5, 3, 144]),
            ([less(2, 1, 0), begins(2, 2, [0]), either(2, 2, 0)], [2, 5, 3, 11]),
            ([then(2, 0, 0), then(2, 2, 0)], [6, 3, 3, 729]),
            ([begins(2, 1, [0]), begins(2, 2, [0, 3]), begins(2, 2, [])], [2, 5, 1, 1]),
        ]:
            self.assertEqual(ask_one(*making, *calls, tell(2)), [0, *expected], calls)

    def test_rows_in_order(self):
        rows = [[0, 0], [0, 1], [0, 2], [1, 1], [1, 2], [2, 2]]
        self.assertEqual(ask(self.BAGS, *[row_of(0, i) for i in range(6)])[1:], [[0, *row] for row in rows])
        self.assertEqual(ask_one(self.BAGS, rows_from(0, 0, 20)), [0, *[x for row in rows for x in [2, *row]]])
        self.assertEqual(ask_one(self.ZIGZAGS, rows_from(0, 1, 3)), [0, 4, 0, 3, 1, 2, 4, 1, 2, 0, 3, 4, 1, 3, 0, 2])

    def test_the_last_number_and_past_it(self):
        answered = ask(self.BAGS, row_of(0, 5), row_of(0, 6), row_of(0, LARGEST), row_of(0, ENDLESS))
        self.assertEqual(answered[1:], [[0, 2, 2], [-5], [-5], [-5]])
        answered = ask(
            self.BAGS, rows_from(0, 5, 1), rows_from(0, 5, 20), rows_from(0, 6, 1), rows_from(0, ENDLESS, 20),
            rows_from(0, 4, 20), rows_from(0, 4, 0), rows_from(0, 0, 0), rows_from(0, 0, 21), rows_from(0, 6, 21))
        self.assertEqual(answered[1:], [
            [0, 2, 2, 2], [0, 2, 2, 2], [0], [0], [0, 2, 1, 2, 2, 2, 2], [0], [0], [-1], [-1]])

    def test_number_and_fault(self):
        answered = ask(
            self.ZIGZAGS, number_of(0, [0, 2, 1, 3]), number_of(0, [2, 3, 0, 1]), number_of(0, [3, 0, 1, 2]),
            number_of(0, [0, 1, 2, 3]), number_of(0, [0, 2, 0, 3]), number_of(0, [0, 2, 1, 1]),
            number_of(0, [0, 2, 1, LARGEST]), number_of(0, [4, 2, 1, 3]), number_of(0, [LARGEST] * 4))
        self.assertEqual(
            answered[1:], [[0, 0], [0, 4], [-9, 0], [-9, 1], [-9, 2], [-9, 3], [-9, 3], [-9, 0], [-9, 0]])

    def test_a_fault_may_show_later_than_it_comes_about(self):
        # Shares of 3 in three numbers below 2: with 0 at the first place nothing goes on.
        shares = made(9, 0, 3, 3, 0, 1)
        self.assertEqual(ask_one(shares, number_of(0, [0, 1, 1])), [-9, 0])
        self.assertEqual(ask_one(shares, number_of(0, [1, 1, 0])), [-9, 2])
        self.assertEqual(ask_one(shares, number_of(0, [1, 1, 1])), [0, 0])

    def test_fault_of_a_kind_without_rows(self):
        for making, length in [
            (made(1, 0, 3, 0), 3), (made(5, 0, 1), 1), (made(10, 0, 0, 1), 0), (made(8, 0, 1, 0, 3), 0),
            (made(11, 0, 0, 3, 1), 0), (made(12, 0, 1, 1, 0, 0, [0]), 0), (made(9, 0, 1, 0, 0, 3), 0),
        ]:
            self.assertEqual(ask_one(making, number_of(0, [0] * length)), [-9, 0])
            self.assertEqual(ask_one(making, next_of(0, [0] * length)), [-5])
            self.assertEqual(ask_one(making, previous_of(0, [LARGEST] * length)), [-5])
            self.assertEqual(ask_one(making, beginning(0, [0] * length)), [0, 0, 0])
            self.assertEqual(ask_one(making, beginning(0, [])), [0, 0, 0])
            self.assertEqual(ask_one(making, row_of(0, 0)), [-5])
            self.assertEqual(ask_one(making, rows_from(0, 0, 20)), [0])

    def test_the_empty_row(self):
        for making in (made(1, 0, 0, 3), made(4, 0, []), made(10, 0, 0, 0), made(13, 0, [])):
            answered = ask(
                making, row_of(0, 0), row_of(0, 1), number_of(0, []), next_of(0, []), previous_of(0, []),
                beginning(0, []), beginning(0, [0]), rows_from(0, 0, 20), rows_from(0, 1, 1), number_of(0, [0]),
                next_of(0, [0]), previous_of(0, [0]))
            self.assertEqual(
                answered[1:], [[0], [-5], [0, 0], [-5], [-5], [0, 0, 1], [-2], [0, 0], [0], [-2], [-2], [-2]])

    def test_next(self):
        answered = ask(self.BAGS, *[next_of(0, row) for row in (
            [0, 0], [0, 2], [0, 3], [0, LARGEST], [1, 0], [1, 2], [2, 0], [2, 1], [2, 2], [2, 3], [3, 0],
            [LARGEST, 0])])
        self.assertEqual(answered[1:], [
            [0, 0, 1], [0, 1, 1], [0, 1, 1], [0, 1, 1], [0, 1, 1], [0, 2, 2], [0, 2, 2], [0, 2, 2], [-5], [-5], [-5],
            [-5]])

    def test_previous(self):
        answered = ask(self.BAGS, *[previous_of(0, row) for row in (
            [0, 0], [0, 1], [0, LARGEST], [1, 0], [1, 1], [2, 0], [2, 2], [2, 3], [3, 0], [LARGEST, LARGEST])])
        self.assertEqual(answered[1:], [
            [-5], [0, 0, 0], [0, 0, 2], [0, 0, 2], [0, 0, 2], [0, 1, 2], [0, 1, 2], [0, 2, 2], [0, 2, 2], [0, 2, 2]])

    def test_before_the_first_and_behind_the_last(self):
        self.assertEqual(ask_one(self.ZIGZAGS, next_of(0, [0, 0, 0, 0])), [0, 0, 2, 1, 3])
        self.assertEqual(ask_one(self.ZIGZAGS, previous_of(0, [0, 0, 0, 0])), [-5])
        self.assertEqual(ask_one(self.ZIGZAGS, previous_of(0, [9, 0, 0, 0])), [0, 2, 3, 0, 1])
        self.assertEqual(ask_one(self.ZIGZAGS, next_of(0, [9, 0, 0, 0])), [-5])

    def test_beginning(self):
        answered = ask(self.BAGS, *[beginning(0, row) for row in (
            [], [0], [1], [2], [3], [LARGEST], [0, 1], [1, 0], [2, 2], [2, 3], [3, 0], [1, LARGEST], [0, 0, 0])])
        self.assertEqual(answered[1:], [
            [0, 0, 6], [0, 0, 3], [0, 3, 2], [0, 5, 1], [0, 6, 0], [0, 6, 0], [0, 1, 1], [0, 3, 0], [0, 5, 1],
            [0, 6, 0],
            [0, 6, 0], [0, 5, 0], [-2]])

    def test_questions_change_nothing(self):
        asked = [tell(0), row_of(0, 3), number_of(0, [1, 1]), number_of(0, [1, 0]), next_of(0, [1, 0]),
                 previous_of(0, [1, 0]), beginning(0, [1]), rows_from(0, 2, 3)]
        answered = ask(self.BAGS, *asked, *asked, *asked[::-1], *asked)
        self.assertEqual(answered[9:17], answered[1:9])
        self.assertEqual(answered[17:25], answered[8:0:-1])
        self.assertEqual(answered[25:], answered[1:9])

    def test_all_rows_there_could_be(self):
        for making in ([made(2, 0, 4, 2)], [made(9, 0, 3, 2, 0, 3), made(3, 1, 3, 2), either(0, 0, 1)],
                       [made(10, 0, 3, 2), made(7, 1, 3), less(0, 0, 1)],
                       [made(1, 0, 1, 2), made(2, 1, 3, 2), then(0, 0, 1)]):
            kind = kind_of(making)
            candidates = list(itertools.product([*range(kind.letters + 2), LARGEST], repeat=kind.length))
            for number in (23, 24, 25, 26):
                answered = ask_many(making, [made(number, 0, row) for row in candidates])
                self.assertEqual(answered, [ask_kind(kind, number, [row]) for row in candidates])


if __name__ == "__main__":
    unittest.main()

"""Calls 28 and 29: fair numbers, and rows drawn by them (promise 4)."""

import random
import unittest

from helpers import LARGEST, ask, ask_many, ask_one, draw, either, fair, less, made, row_of, tell, then
from model import POOL, ask_fair, ask_kind, kind_of, one_of, random_making

WORDS = 2 ** 32

# Numbers with words of none, one and two a try; with many tries that fail, with few, and with none.
BELOW = [
    1, 2, 3, 5, 6, 7, 10, 255, 256, 1000, 65535, 65537, 10 ** 6, 2 ** 31 - 1, 2 ** 31, 2 ** 31 + 1, 3 * 2 ** 30 + 1,
    2 ** 32 - 2, 2 ** 32 - 1, 2 ** 32, 2 ** 32 + 1, 2 ** 32 + 2, 2 ** 33, 10 ** 10, 3 ** 30, 10 ** 15, 2 ** 48 + 1,
    2 ** 60 + 1, 2 ** 61 - 1, 2 ** 61, 2 ** 61 + 1, 3 * 2 ** 60 + 1, 2 ** 62 - 2, 2 ** 62 - 1, 2 ** 62,
]


def words_of(x, w):
    """x as w words, the first one the lowest 32 bits."""
    return [x >> 32 * place & LARGEST for place in range(w)]


def width(n):
    return 0 if n == 1 else 1 if n <= WORDS else 2


class ByWords(unittest.TestCase):
    def test_random_words(self):
        source = random.Random(29)
        retried = 0
        for n in BELOW:
            questions = []
            for turn in range(60):
                drawn = [source.choice([0, 1, 2, LARGEST, LARGEST - 1, source.randrange(WORDS)]) for place in range(9)]
                questions.append(fair(n, drawn[:turn % 10]))
            answered = ask_many([], questions)
            expected = [ask_fair(n, question[3:]) for question in questions]
            self.assertEqual(answered, expected, n)
            retried += len([answer for answer in answered if answer[0] == 0 and answer[2] > width(n)])
        self.assertGreater(retried, 100)

    def test_words_just_as_many_fewer_and_more(self):
        source = random.Random(4)
        for n in BELOW:
            for turn in range(10):
                drawn = [source.choice([0, source.randrange(WORDS)]) for place in range(200)]
                number, taken = ask_one(fair(n, drawn))[1:]
                self.assertLess(number, n)
                self.assertEqual(taken % max(1, width(n)), 0)
                self.assertEqual(ask_one(fair(n, drawn[:taken])), [0, number, taken])
                self.assertEqual(ask_one(fair(n, drawn[:taken] + [LARGEST] * 5)), [0, number, taken])
                for fewer in range(max(0, taken - 4), taken):
                    self.assertEqual(ask_one(fair(n, drawn[:fewer])), [-6], (n, fewer))

    def test_no_words(self):
        self.assertEqual(ask_one(fair(1, [])), [0, 0, 0])
        self.assertEqual(ask_one(fair(1, [7, 8, 9])), [0, 0, 0])
        for n in BELOW[1:]:
            self.assertEqual(ask_one(fair(n, [])), [-6])

    def test_how_many_words_a_try(self):
        most = [LARGEST] * 3
        self.assertEqual(ask_one(fair(2, most)), [0, 1, 1])
        self.assertEqual(ask_one(fair(WORDS - 1, most)), [0, WORDS - 2, 1])
        self.assertEqual(ask_one(fair(WORDS, most)), [0, WORDS - 1, 1])
        self.assertEqual(ask_one(fair(WORDS + 1, most)), [0, WORDS, 2])
        self.assertEqual(ask_one(fair(2 ** 62, most)), [0, 2 ** 62 - 1, 2])
        for n in (WORDS + 1, 2 ** 62):
            self.assertEqual(ask_one(fair(n, [5])), [-6])

    def test_a_power_of_two_never_fails(self):
        for place in range(1, 63):
            for drawn in ([0, 0], [1, 0], [0, 1], [LARGEST, 0], [0, LARGEST], [LARGEST, LARGEST]):
                self.assertEqual(ask_one(fair(2 ** place, drawn))[2], width(2 ** place))

    def test_the_first_word_is_the_lowest(self):
        self.assertEqual(ask_one(fair(2 ** 62, [0, 1])), [0, 2 ** 30, 2])
        self.assertEqual(ask_one(fair(2 ** 62, [4, 0])), [0, 1, 2])
        self.assertEqual(ask_one(fair(2 ** 62, [3, 0])), [0, 0, 2])
        self.assertEqual(ask_one(fair(2 ** 33, [0, 1])), [0, 2, 2])

    def test_tries_that_fail(self):
        # Of three only x = 0 fails: B modulo 3 is 1.
        self.assertEqual(ask_one(fair(3, [0])), [-6])
        self.assertEqual(ask_one(fair(3, [1])), [0, 0, 1])
        self.assertEqual(ask_one(fair(3, [0, LARGEST])), [0, 2, 2])
        self.assertEqual(ask_one(fair(3, [0] * 3900)), [-6])
        self.assertEqual(ask_one(fair(3, [0] * 3899 + [1])), [0, 0, 3900])
        # Two words a try: x = 0 fails here too, and one word that's left over is too few.
        self.assertEqual(ask_one(fair(WORDS + 1, [0, 0])), [-6])
        self.assertEqual(ask_one(fair(WORDS + 1, [0, 0, 9])), [-6])
        self.assertEqual(ask_one(fair(WORDS + 1, [0, 0, 0, 1])), [0, 1, 4])
        self.assertEqual(ask_one(fair(2 ** 62 - 1, [0, 0, 1, 0, 2, 0, 3, 0])), [0, 0, 4])

    def test_bounds(self):
        for n in (0, 2 ** 62 + 1, 2 ** 63 - 1):
            for drawn in ([], [0], [1, 2, 3, 4]):
                self.assertEqual(ask_one(fair(n, drawn)), [-1])
        self.assertEqual(ask_one(fair(2 ** 62, [0, 0])), [0, 0, 2])


class AsManyForEach(unittest.TestCase):
    """Promise 4: the x from which a number comes are those from its first to its last, B / n down of them."""

    def test_the_first_and_the_last_of_each(self):
        source = random.Random(62)
        for n in BELOW[1:]:
            w = width(n)
            b = 2 ** (32 * w)
            for number in {0, 1, n // 2, n - 2, n - 1, *[source.randrange(n) for turn in range(6)]}:
                # x n is from number B, with what fails left out, up to below (number + 1) B.
                first = -((number * b + b % n) // -n)
                last = -((number + 1) * b // -n) - 1
                self.assertEqual(last - first + 1, b // n)
                for x in (first, last, (first + last) // 2):
                    self.assertEqual(ask_one(fair(n, words_of(x, w))), [0, number, w], (n, x))
                for x in (first - 1, last + 1):
                    if 0 <= x < b:
                        answer = ask_one(fair(n, words_of(x, w)))
                        self.assertTrue(answer == [-6] or abs(answer[1] - number) == 1, (n, x))


class Drawn(unittest.TestCase):
    def check(self, making, drawn):
        kind = kind_of(making)
        self.assertEqual(ask_one(*making, draw(0, drawn)), ask_kind(kind, 28, [drawn]), (making, drawn))

    def test_each_of_the_fifteen(self):
        source = random.Random(28)
        for number, *given in POOL:
            for turn in range(12):
                self.check([made(number, 0, *given)], [source.randrange(WORDS) for place in range(turn % 4)])
            self.check([made(number, 0, *given)], [0, 0, 0, 1])

    def test_put_together(self):
        source = random.Random(30)
        for turn in range(100):
            making = random_making(source, 2 + turn % 2, 150)[0]
            for many in range(4):
                self.check(making, [source.choice([0, source.randrange(WORDS)]) for place in range(many)])

    def test_each_row_can_be_drawn(self):
        making = made(5, 0, 4)
        for number, row in enumerate(one_of(5, 4).rows):
            x = -((number * WORDS + WORDS % 9) // -9)
            self.assertEqual(ask_one(making, draw(0, [x])), [0, 1, *row])

    def test_none_and_one(self):
        self.assertEqual(ask_one(made(1, 0, 3, 0), draw(0, [1, 2, 3])), [-5])
        self.assertEqual(ask_one(made(1, 0, 3, 0), draw(0, [])), [-5])
        self.assertEqual(ask_one(made(10, 0, 0, 1), draw(0, [])), [-5])
        self.assertEqual(ask_one(made(1, 0, 3, 1), draw(0, [])), [0, 0, 0, 0, 0])
        self.assertEqual(ask_one(made(1, 0, 3, 1), draw(0, [7])), [0, 0, 0, 0, 0])
        self.assertEqual(ask_one(made(1, 0, 0, 5), draw(0, [])), [0, 0])
        self.assertEqual(ask_one(made(1, 0, 1, 2), draw(0, [])), [-6])
        self.assertEqual(ask_one(draw(0, [])), [-3])

    def test_kinds_with_about_as_many_rows_as_words(self):
        all_words = [made(1, 0, 16, 4)]
        one_less = [made(1, 0, 16, 4), made(1, 1, 16, 1), less(0, 0, 1)]
        one_more = [made(1, 0, 16, 4), made(9, 1, 80, 16, 5, 5), either(0, 0, 1)]
        for making, rows in ((all_words, WORDS), (one_less, WORDS - 1), (one_more, WORDS + 1)):
            self.assertEqual(ask_one(*making), [0, 16, rows])
            for drawn in ([], [5], [LARGEST], [0, 0], [LARGEST, LARGEST], [5, 6, 7], [0, 0, 0, 1], [1, 0, LARGEST, 9]):
                fair_answer = ask_one(fair(rows, drawn))
                expected = fair_answer
                if fair_answer[0] == 0:
                    expected = [0, fair_answer[2], *ask_one(*making, row_of(0, fair_answer[1]))[1:]]
                self.assertEqual(ask_one(*making, draw(0, drawn)), expected, (rows, drawn))
        self.assertEqual(ask_one(*all_words, draw(0, [LARGEST])), [0, 1, *[3] * 16])
        self.assertEqual(ask_one(*one_less, draw(0, [0])), [-6])
        self.assertEqual(ask_one(*one_less, draw(0, [0, LARGEST])), [0, 2, *[3] * 16])
        self.assertEqual(ask_one(*one_more, draw(0, [LARGEST])), [-6])
        self.assertEqual(ask_one(*one_more, draw(0, [LARGEST, LARGEST])), [0, 2, *[5] * 16])

    def test_the_most_rows(self):
        making = [made(1, 0, 15, 16), made(1, 1, 15, 1), less(0, 0, 1), made(1, 1, 1, 4), then(0, 1, 0)]
        self.assertEqual(ask(*making, tell(0))[-1], [0, 16, 16, 3, 2 ** 62 - 4])
        self.assertEqual(ask_one(*making, draw(0, [LARGEST, LARGEST])), [0, 2, 3, *[15] * 15])
        self.assertEqual(ask_one(*making, draw(0, [0, 0])), [-6])
        self.assertEqual(ask_one(*making, draw(0, [0, 0, LARGEST, LARGEST])), [0, 4, 3, *[15] * 15])
        self.assertEqual(ask_one(*making, draw(0, [LARGEST])), [-6])

    def test_drawing_changes_nothing(self):
        answered = ask(made(5, 0, 4), draw(0, [77, 0]), draw(0, [77, 0]), draw(0, []), draw(0, [77]), tell(0))
        self.assertEqual(answered[1], answered[2])
        self.assertEqual(answered[3:], [[-6], answered[1], [0, 4, 4, 1, 9]])


if __name__ == "__main__":
    unittest.main()

"""Call 16: rows of a that are b's too, and as many, against going through all rows."""

import itertools
import random
import unittest

from helpers import all_rows, ask, ask_one, both, made, rows_found
from model import BY_LENGTH, POOL, one_of


class AgainstAllRows(unittest.TestCase):
    @classmethod
    def setUpClass(cls):
        cls.rows = [set(one_of(*kind).rows) for kind in POOL]
        cls.by_length = BY_LENGTH

    def make(self, t, at):
        number, *given = POOL[at]
        return made(number, t, *given)

    def test_the_pool_has_each_kind(self):
        self.assertEqual({kind[0] for kind in POOL}, set(range(1, 16)))
        self.assertEqual(sorted(self.by_length), [0, 1, 3, 4])

    def test_all_pairs(self):
        for length, places in self.by_length.items():
            for i, j in itertools.product(places, repeat=2):
                answer = ask_one(self.make(0, i), self.make(1, j), both(2, 0, 1))
                self.assertEqual(answer, [0, length, len(self.rows[i] & self.rows[j])], (POOL[i], POOL[j]))

    def test_pairs_not_as_long(self):
        firsts = [places[0] for places in self.by_length.values()]
        for i, j in itertools.permutations(firsts, 2):
            self.assertEqual(ask_one(self.make(0, i), self.make(1, j), both(2, 0, 1)), [-2])

    def test_three(self):
        source = random.Random(16)
        for turn in range(1500):
            length = source.choice([0, 3, 4, 4])
            i, j, k = [source.choice(self.by_length[length]) for which in range(3)]
            calls = [self.make(0, i), self.make(1, j), self.make(2, k)]
            expected = [0, length, len(self.rows[i] & self.rows[j] & self.rows[k])]
            self.assertEqual(ask_one(*calls, both(3, 0, 1), both(4, 3, 2)), expected, (POOL[i], POOL[j], POOL[k]))
            self.assertEqual(ask_one(*calls, both(3, 1, 2), both(4, 0, 3)), expected, (POOL[i], POOL[j], POOL[k]))

    def test_which_rows(self):
        for first, second, third in [
            ((1, 4, 3), (9, 4, 4, 0, 3), (10, 4, 3)), ((4, [1, 1, 1, 1]), (5, 4), (6, 4)),
            ((3, 3, 4), (9, 6, 4, 0, 3), (1, 4, 3)), ((8, 6, 4, 4), (9, 6, 4, 0, 3), (1, 4, 4)),
            ((14, 3, 4, 4, [14, 13, 11, 7]), (10, 4, 3), (12, 1, 3, 1, 4, [0, 0, 0])),
        ]:
            in_two = set(all_rows(*first)) & set(all_rows(*second))
            in_three = in_two & set(all_rows(*third))
            self.assertTrue(in_three)
            candidates = list(itertools.product(range(4), repeat=4))
            making = [made(first[0], 0, *first[1:]), made(second[0], 1, *second[1:]), both(0, 0, 1)]
            self.assertEqual(rows_found(candidates, *making), sorted(in_two))
            self.assertEqual(ask_one(*making, made(third[0], 1, *third[1:]), both(0, 0, 1)), [0, 4, len(in_three)])


class OtherLetters(unittest.TestCase):
    def test_fewer_letters_decide(self):
        self.assertEqual(ask_one(made(1, 0, 3, 5), made(1, 1, 3, 2), both(2, 0, 1)), [0, 3, 8])
        self.assertEqual(ask_one(made(1, 0, 3, 2), made(1, 1, 3, 5), both(2, 0, 1)), [0, 3, 8])
        self.assertEqual(ask_one(made(1, 0, 3, 0), made(1, 1, 3, 5), both(2, 0, 1)), [0, 3, 0])
        self.assertEqual(ask_one(made(2, 0, 20, 3), made(1, 1, 3, 3), both(2, 1, 0)), [0, 3, 1])

    def test_no_row_in_common(self):
        self.assertEqual(ask_one(made(5, 0, 3), made(15, 1, [7, 7, 7]), both(2, 0, 1)), [0, 3, 0])
        self.assertEqual(ask_one(made(9, 0, 3, 2, 0, 3), made(9, 1, 4, 2, 0, 3), both(2, 0, 1)), [0, 2, 0])

    def test_the_empty_row(self):
        self.assertEqual(ask_one(made(1, 0, 0, 3), made(4, 1, []), both(2, 0, 1)), [0, 0, 1])
        self.assertEqual(ask_one(made(1, 0, 0, 3), made(10, 1, 0, 1), both(2, 0, 1)), [0, 0, 0])


class Numbers(unittest.TestCase):
    def test_with_itself(self):
        for number, *given in POOL:
            first, second = ask(made(number, 0, *given), both(1, 0, 0))
            self.assertEqual(second, first)

    def test_t_is_a(self):
        answered = ask(made(1, 0, 3, 3), made(3, 1, 4, 3), both(0, 0, 1), both(2, 0, 1), both(3, 1, 1))
        self.assertEqual(answered[2:], [[0, 3, 10], [0, 3, 10], [0, 3, 20]])

    def test_t_is_b(self):
        answered = ask(made(1, 0, 3, 3), made(3, 1, 4, 3), both(1, 0, 1), both(2, 0, 1), both(3, 0, 0))
        self.assertEqual(answered[2:], [[0, 3, 10], [0, 3, 10], [0, 3, 27]])

    def test_t_is_a_and_b(self):
        answered = ask(made(3, 0, 4, 3), both(0, 0, 0), made(1, 1, 3, 3), both(0, 0, 1), both(0, 0, 1))
        self.assertEqual(answered, [[0, 3, 20], [0, 3, 20], [0, 3, 27], [0, 3, 10], [-2]])

    def test_t_was_another_kind(self):
        answered = ask(made(1, 0, 3, 3), made(1, 1, 7, 2), both(1, 0, 0), both(2, 1, 0))
        self.assertEqual(answered[2:], [[0, 3, 27], [0, 3, 27]])

    def test_made_of_kinds_as_they_were_before(self):
        making = [made(1, 0, 3, 3), made(3, 1, 4, 3), both(2, 0, 1)]
        anew = [made(1, 0, 5, 2), made(1, 1, 3, 2)]
        self.assertEqual(ask_one(*making, *anew, made(1, 3, 3, 20), both(4, 2, 3)), [0, 3, 10])
        self.assertEqual(ask_one(*making, *anew, both(4, 2, 1)), [0, 3, 4])
        self.assertEqual(ask_one(*making, *anew, both(4, 2, 0)), [-2])

    def test_with_a_kind_made_anew(self):
        answered = ask(
            made(1, 0, 3, 3), made(3, 1, 4, 3), both(2, 0, 1), made(1, 1, 3, 2), both(3, 0, 1), both(4, 2, 1))
        self.assertEqual(answered[2:], [[0, 3, 10], [0, 3, 8], [0, 3, 8], [0, 3, 4]])


if __name__ == "__main__":
    unittest.main()

"""Call 30: whether two kinds have the same rows, else the first row that just one of them has."""

import itertools
import random
import unittest

from helpers import LARGEST, alike, ask, ask_one, begins, both, drop, either, less, made, only, tell, then
from model import BY_LENGTH, POOL, ask_alike, kind_of, one_of, random_making


def moved(making, t):
    """The same calls, but with kinds t and up in place of 0 and up."""
    found = []
    for call in making:
        numbers = 3 if 16 <= call[0] <= 19 else 2 if call[0] == 20 else 1
        found.append([call[0], *[number + t for number in call[1:1 + numbers]], *call[1 + numbers:]])
    return found


class AgainstAllRows(unittest.TestCase):
    def test_all_pairs_of_the_fifteen(self):
        answers = set()
        for places in BY_LENGTH.values():
            for i, j in itertools.product(places, repeat=2):
                a, b = one_of(*POOL[i]), one_of(*POOL[j])
                calls = [made(POOL[i][0], 0, *POOL[i][1:]), made(POOL[j][0], 1, *POOL[j][1:])]
                answer = ask_one(*calls, alike(0, 1))
                self.assertEqual(answer, ask_alike(a, b), calls)
                if answer[1] == 0:
                    answers.add((tuple(answer[2:]) in a.rows, tuple(answer[2:]) in b.rows))
        self.assertEqual(answers, {(True, False), (False, True)})

    def test_not_as_long(self):
        firsts = [POOL[places[-1]] for places in BY_LENGTH.values()]
        for first, second in itertools.permutations(firsts, 2):
            self.assertEqual(ask_one(made(first[0], 0, *first[1:]), made(second[0], 1, *second[1:]), alike(0, 1)), [-2])

    def test_put_together(self):
        source = random.Random(30)
        by_length = {}
        for turn in range(250):
            making = random_making(source, 1 + turn % 3, 150)[0]
            by_length.setdefault(kind_of(making).length, []).append(making)
        asked = 0
        for some in by_length.values():
            for first, second in source.sample(list(itertools.product(some, repeat=2)), min(len(some) ** 2, 150)):
                calls = [*first, *moved(second, 2)]
                self.assertEqual(ask_one(*calls, alike(0, 2)), ask_alike(kind_of(first), kind_of(second)), calls)
                asked += 1
        self.assertGreater(asked, 400)

    def test_one_row_apart(self):
        # The row left out is found wherever it stands, in whichever of the two.
        for number, *given in [(3, 4, 3), (5, 4), (9, 6, 3, 1, 4), (10, 4, 2), (1, 0, 3), (12, 1, 6, 1, 2, [0] * 6)]:
            for row in one_of(number, *given).rows:
                one = only(row)
                calls = [made(number, 0, *given), made(one[0], 1, *one[1:]), less(2, 0, 1)]
                answered = ask(*calls, alike(0, 2), alike(2, 0), alike(2, 2), either(2, 2, 1), alike(2, 0), alike(0, 2))
                self.assertEqual(answered[3:5], [[0, 0, *row]] * 2)
                self.assertEqual(answered[5], [0, 1])
                self.assertEqual(answered[7:], [[0, 1]] * 2)


class ByHand(unittest.TestCase):
    def test_made_otherwise_with_the_same_rows(self):
        for first, second in [
            ([made(1, 0, 2, 3)], [made(14, 1, 1, 3, 3, [7, 7, 7])]),
            ([made(4, 0, [1, 1, 1])], [made(13, 1, [0, 0, 0])]),
            ([made(6, 0, 4), made(5, 1, 4), both(0, 0, 1)], [made(15, 1, [15] * 4)]),
            ([made(8, 0, 4, 3, 9)], [made(8, 1, 4, 3, 4)]),
            ([made(9, 0, 2, 3, 0, 2)], [made(9, 1, 2, 3, 0, 19)]),
            ([made(2, 0, 5, 2), made(9, 1, 4, 2, 2, 2), either(0, 0, 1)],
             [made(9, 1, 4, 2, 2, 2), made(2, 2, 5, 2), either(1, 1, 2)]),
            ([made(1, 0, 4, 3)], [made(1, 1, 2, 3), then(1, 1, 1)]),
            ([made(1, 0, 3, 2)], [made(1, 1, 1, 2), then(2, 1, 1), then(1, 1, 2)]),
        ]:
            self.assertEqual(ask_one(*first, *second, alike(0, 1)), [0, 1], (first, second))
            self.assertEqual(ask_one(*first, *second, alike(1, 0)), [0, 1], (first, second))

    def test_other_letters_and_the_same_rows(self):
        for first, second in [
            ([made(9, 0, 2, 3, 0, 19)], [made(9, 1, 2, 3, 0, 2)]), ([made(2, 0, 4, 0)], [made(2, 1, 9, 0)]),
            ([made(4, 0, [1, 1, 0, 0])], [made(4, 1, [1, 1])]), ([made(1, 0, 2, 0)], [made(2, 1, 1, 2)]),
        ]:
            answered = ask(*first, *second, tell(0), tell(1), alike(0, 1), alike(1, 0))
            self.assertNotEqual(answered[-4][2], answered[-3][2])
            self.assertEqual(answered[-2:], [[0, 1], [0, 1]])

    def test_other_letters_and_other_rows(self):
        answered = ask(made(1, 0, 2, 2), made(1, 1, 2, 3), alike(0, 1), alike(1, 0))
        self.assertEqual(answered[2:], [[0, 0, 0, 2]] * 2)
        answered = ask(made(9, 0, 19, 2, 0, 19), made(9, 1, 19, 2, 1, 18), alike(0, 1), alike(1, 0))
        self.assertEqual(answered[2:], [[0, 0, 0, 19]] * 2)

    def test_the_first_is_of_a_or_of_b(self):
        # 0213 0312 1203 1302 2301 and 1032 2301 3210.
        calls = [made(7, 0, 4), made(15, 1, [15] * 4)]
        self.assertEqual(ask_one(*calls, alike(0, 1)), [0, 0, 0, 2, 1, 3])
        self.assertEqual(ask_one(*calls, alike(1, 0)), [0, 0, 0, 2, 1, 3])
        calls = [made(2, 0, 4, 2), made(3, 1, 3, 2)]
        self.assertEqual(ask_one(*calls, alike(0, 1)), [0, 0, 0, 0])
        self.assertEqual(ask_one(*calls, begins(1, 1, [1]), alike(0, 1)), [0, 0, 0, 1])
        self.assertEqual(ask_one(*calls, begins(0, 0, [1]), begins(1, 1, [1]), alike(0, 1)), [0, 0, 1, 1])
        self.assertEqual(ask_one(*calls, begins(0, 0, [1, 2]), begins(1, 1, [1, 2]), alike(0, 1)), [0, 1])

    def test_without_rows(self):
        none = [made(1, 0, 3, 0), made(5, 1, 1), then(1, 1, 1), made(1, 2, 1, 4), then(1, 1, 2)]
        self.assertEqual(ask_one(*none, alike(0, 1)), [0, 1])
        self.assertEqual(ask_one(*none, made(3, 2, 3, 3), alike(0, 2)), [0, 0, 0, 0, 0])
        self.assertEqual(ask_one(*none, made(2, 2, 5, 3), alike(2, 0)), [0, 0, 0, 1, 2])
        self.assertEqual(ask_one(*none, made(9, 2, 57, 3, 0, 19), alike(1, 2)), [0, 0, 19, 19, 19])

    def test_length_nought(self):
        calls = [made(1, 0, 0, 0), made(4, 1, [0, 0]), made(10, 2, 0, 3), made(8, 3, 1, 0, 0)]
        answered = ask(*calls, alike(0, 1), alike(1, 0), alike(2, 3), alike(0, 2), alike(2, 0), alike(3, 1))
        self.assertEqual(answered[4:], [[0, 1], [0, 1], [0, 1], [0, 0], [0, 0], [0, 0]])

    def test_refused(self):
        kind = made(1, 0, 2, 2)
        for a, b in ((0, 1), (1, 0), (1, 1), (0, 6), (LARGEST, 0), (6, 7)):
            self.assertEqual(ask_one(kind, alike(a, b)), [-3])
        self.assertEqual(ask_one(kind, made(1, 1, 3, 2), alike(0, 1)), [-2])
        self.assertEqual(ask_one(kind, made(1, 1, 3, 0), made(1, 2, 2, 0), alike(1, 2)), [-2])
        self.assertEqual(ask_one(kind, made(1, 1, 3, 2), drop(0), alike(0, 1)), [-3])

    def test_any_size(self):
        making = [made(1, 0, 2, 2), either(1, 0, 0), either(1, 1, 0), less(2, 0, 0), either(2, 2, 0)]
        self.assertEqual(ask(*making, tell(1), tell(2), alike(1, 2))[-3:], [[0, 2, 2, 3, 4], [0, 2, 2, 3, 4], [0, 1]])


if __name__ == "__main__":
    unittest.main()

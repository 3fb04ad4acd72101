"""The largest kinds that the bounds allow, alone and put together, against counts made in other ways."""

import itertools
import math
import random
import unittest

from helpers import ask, ask_one, bit, both, made, told

LIMIT = 2 ** 62


def counted(length, count):
    return [0, length, count] if count < LIMIT else [-4]


def compositions(n, least, most):
    """For each sum how many rows of n numbers from least to most have it."""
    by_sum = {0: 1}
    for place in range(n):
        longer = {}
        for total, count in by_sum.items():
            for x in range(least, most + 1):
                longer[total + x] = longer.get(total + x, 0) + count
        by_sum = longer
    return by_sum


def box_partitions(n, most):
    """For each sum how many rows of n numbers up to most, none less than the one before, have it.

    Number by number: each may be there any number of times, n times in all.
    """
    table = {(0, 0): 1}
    for x in range(most + 1):
        longer = {}
        for (used, total), count in table.items():
            for more in range(n - used + 1):
                key = (used + more, total + more * x)
                longer[key] = longer.get(key, 0) + count
        table = longer
    return {total: count for (used, total), count in table.items() if used == n}


def stirling(n, k):
    """Ways to put n things into k groups."""
    return sum((-1) ** j * math.comb(k, j) * (k - j) ** n for j in range(k + 1)) // math.factorial(k)


def ballot(n, end):
    """Ways of n steps up or down from 0 to end, never below 0."""
    if (n + end) % 2 == 1 or end > n:
        return 0
    ups = (n + end) // 2
    return math.comb(n, ups) - math.comb(n, ups + 1)


def words_through(n, letters, start, step, ends):
    """How many rows of n numbers lead from start to an end, counted from the front."""
    reached = {start: 1}
    for place in range(n):
        behind = {}
        for state, count in reached.items():
            for x in range(letters):
                after = step(state, x)
                if after is not None:
                    behind[after] = behind.get(after, 0) + count
        reached = behind
    return sum(count for state, count in reached.items() if ends(state))


class Alone(unittest.TestCase):
    def test_choices_and_bags(self):
        for n, k in itertools.product(range(21), repeat=2):
            self.assertEqual(ask_one(made(2, 0, n, k)), [0, k, math.comb(n, k)])
            rows = math.comb(n + k - 1, k) if n > 0 else int(k == 0)
            self.assertEqual(ask_one(made(3, 0, n, k)), [0, k, rows])

    def test_orders(self):
        for counts in ([2, 2, 1, 1, 1, 1, 1, 1], [3, 1, 1, 1, 1, 1, 1, 1], [2, 2, 2, 2, 2], [5, 5], [1] * 8,
                       [0, 0, 4, 0, 3, 0, 2, 1]):
            rows = math.factorial(sum(counts))
            for count in counts:
                rows //= math.factorial(count)
            self.assertEqual(ask_one(made(4, 0, counts)), [0, sum(counts), rows])

    def test_seven_numbers_once_each(self):
        everything = [0b1111110, 0b1111101, 0b1111011, 0b1110111, 0b1101111, 0b1011111, 0b0111111]
        some = [0, 0, 0b11, 0b10, 0b100, 0b1100, 0b10]
        for number, *given in [(5, 7), (6, 7), (7, 7), (13, [0] * 7), (13, some), (15, everything), (15, some)]:
            fits = told(number, *given)[2]
            rows = len([row for row in itertools.permutations(range(7)) if fits(row)])
            self.assertEqual(ask_one(made(number, 0, *given)), [0, 7, rows])

    def test_parts(self):
        for n, most in [(20, 19), (20, 3), (5, 19), (19, 19), (20, 18)]:
            rows = box_partitions(n, most)
            for total in (0, 1, 30, 59, 60):
                self.assertEqual(ask_one(made(8, 0, total, n, most)), [0, n, rows.get(total, 0)])

    def test_shares(self):
        for n, least, most in [(20, 0, 19), (20, 0, 7), (15, 0, 19), (20, 5, 11), (20, 10, 19), (20, 9, 19)]:
            rows = compositions(n, least, most)
            for total in (0, 20, 64, 65, 100, 140, 199, 200):
                self.assertEqual(ask_one(made(9, 0, total, n, least, most)), counted(n, rows.get(total, 0)))

    def test_groups(self):
        for n, k in itertools.product(range(13), repeat=2):
            self.assertEqual(ask_one(made(10, 0, n, k)), [0, n, stirling(n, k)])

    def test_paths(self):
        for n, end in itertools.product(range(21), repeat=2):
            self.assertEqual(ask_one(made(11, 0, n, 20, end)), [0, n, ballot(n, end)])
        self.assertEqual(ask_one(made(11, 0, 20, 2, 0)), [0, 20, 512])

    def test_automaton(self):
        source = random.Random(1)
        for turn in range(5):
            following = [source.randrange(9) for place in range(48)]
            accepting = source.randrange(256)
            rows = words_through(
                16, 6, 0, lambda q, x: following[q * 6 + x] if following[q * 6 + x] < 8 else None,
                lambda q: bit(accepting, q))
            self.assertEqual(ask_one(made(12, 0, 8, 6, accepting, 16, following)), [0, 16, rows])
        self.assertEqual(ask_one(made(12, 0, 8, 6, 255, 16, [7] * 48)), [0, 16, 6 ** 16])

    def test_walks(self):
        self.assertEqual(ask_one(made(14, 0, 16, 8, 8, [255] * 8)), [0, 17, 8 ** 17])
        self.assertEqual(ask_one(made(14, 0, 16, 7, 0, [255] * 8)), [0, 17, 8 ** 15])
        ring = [2 ** ((node + 1) % 8) + 2 ** ((node + 7) % 8) for node in range(8)]
        self.assertEqual(ask_one(made(14, 0, 16, 8, 8, ring)), [0, 17, 8 * 2 ** 16])


class Together(unittest.TestCase):
    def test_words(self):
        calls = [made(1, 0, 20, 8), both(1, 0, 0), both(2, 1, 0)]
        self.assertEqual(ask(*calls), [[0, 20, 2 ** 60]] * 3)

    def test_bags_and_shares(self):
        for n, most, total in [(20, 19, 64), (15, 19, 150), (20, 7, 70), (20, 7, 140), (14, 19, 133)]:
            rows = box_partitions(n, most).get(total, 0)
            answered = ask(made(3, 0, most + 1, n), made(9, 1, total, n, 0, most), both(2, 0, 1), both(3, 2, 0))
            self.assertEqual(answered[2:], [[0, n, rows]] * 2)

    def test_choices_and_shares(self):
        for k, total in [(10, 95), (5, 50), (12, 113)]:
            # Each number less its place: a row that never goes down.
            rows = box_partitions(k, 20 - k).get(total - k * (k - 1) // 2, 0)
            self.assertEqual(ask_one(made(2, 0, 20, k), made(9, 1, total, k, 0, 19), both(2, 0, 1)), [0, k, rows])

    def test_parts_and_shares(self):
        rows = box_partitions(20, 19)[60]
        answered = ask(made(8, 0, 60, 20, 19), made(9, 1, 60, 20, 0, 19), both(2, 0, 1), both(3, 2, 1))
        self.assertEqual(answered, [[0, 20, rows], [0, 20, compositions(20, 0, 19)[60]], [0, 20, rows], [0, 20, rows]])

    def automata_and_shares(self, source):
        """The calls that make kinds 0, 1 and 2, and how many rows the three have in common."""
        one, two = [[source.randrange(8) for place in range(48)] for which in range(2)]
        rows = words_through(
            16, 6, (0, 0, 0), lambda state, x: (one[state[0] * 6 + x], two[state[1] * 6 + x], state[2] + x),
            lambda state: bit(0b10110101, state[0]) and bit(0b01101110, state[1]) and state[2] == 40)
        calls = [made(12, 0, 8, 6, 0b10110101, 16, one), made(12, 1, 8, 6, 0b01101110, 16, two),
                 made(9, 2, 40, 16, 0, 5)]
        return calls, rows

    def test_automata_and_shares(self):
        calls, rows = self.automata_and_shares(random.Random(2))
        self.assertEqual(ask_one(*calls, both(3, 0, 1), both(4, 3, 2)), [0, 16, rows])
        self.assertEqual(ask_one(*calls, both(3, 2, 0), both(4, 1, 3)), [0, 16, rows])

    def test_forty_calls_of_the_largest(self):
        source = random.Random(4)
        line = []
        expected = []
        for turn in range(8):
            calls, rows = self.automata_and_shares(source)
            line += calls + [both(3, 0, 1), both(4, 3, 2)]
            expected.append([0, 16, rows])
        self.assertEqual(len(line), 40)
        self.assertEqual(ask(*line)[4::5], expected)

    def test_automata_and_orders(self):
        source = random.Random(3)
        one, two = [[source.randrange(8) for place in range(48)] for which in range(2)]
        counts = (2, 2, 2, 2, 1, 1)

        def step(state, x):
            left = state[2]
            if left[x] == 0:
                return None
            left = left[:x] + (left[x] - 1,) + left[x + 1:]
            return (one[state[0] * 6 + x], two[state[1] * 6 + x], left)

        rows = words_through(10, 6, (0, 0, counts), step, lambda state: state[0] > 3 and state[1] > 3)
        calls = [made(12, 0, 8, 6, 0b11110000, 10, one), made(12, 1, 8, 6, 0b11110000, 10, two), made(4, 2, [*counts])]
        self.assertEqual(ask_one(*calls, both(3, 0, 1), both(4, 3, 2)), [0, 10, rows])

    def test_walks_and_bags(self):
        masks = [255, 254, 252, 248, 240, 224, 192, 128]
        answered = ask_one(made(14, 0, 16, 8, 8, [255] * 8), made(14, 1, 16, 8, 8, masks), both(2, 0, 1),
                           made(3, 3, 8, 17), both(4, 2, 3))
        self.assertEqual(answered, [0, 17, math.comb(24, 7)])

    def test_seven_numbers_once_each(self):
        kinds = [(5, 7), (6, 7), (7, 7), (13, [0, 0, 0b11, 0, 0b100, 0, 0]), (4, [1] * 7)]
        rows = []
        for number, *given in kinds:
            fits = told(number, *given)[2]
            rows.append({row for row in itertools.permutations(range(7)) if fits(row)})
        for i, j, k in itertools.product(range(len(kinds)), repeat=3):
            calls = [made(kinds[at][0], t, *kinds[at][1:]) for t, at in enumerate((i, j, k))]
            answer = ask_one(*calls, both(3, 0, 1), both(4, 3, 2))
            self.assertEqual(answer, [0, 7, len(rows[i] & rows[j] & rows[k])])


if __name__ == "__main__":
    unittest.main()

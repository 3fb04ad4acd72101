"""The largest kinds that the bounds allow, alone and put together, against counts made in other ways."""

import itertools
import math
import random
import unittest

import machines
from helpers import (
    alike, ask, ask_one, begins, beginning, bit, both, draw, either, fair, less, made, next_of, number_of,
    previous_of, row_of, rows_from, tell, then, told)
from model import fair_number

LIMIT = 2 ** 62


def counted(length, count):
    return [0, length, count] if count < LIMIT else [-4]


def compositions(n, least, most):
    """For each sum how many rows of n numbers from least to most have it."""
    by_sum = {0: 1}
    for place in range(n):
        longer = {}
        for total, count in by_sum.items():
            for x in range(least, most + 1):
                longer[total + x] = longer.get(total + x, 0) + count
        by_sum = longer
    return by_sum


def box_partitions(n, most):
    """For each sum how many rows of n numbers up to most, none less than the one before, have it.

    Number by number: each may be there any number of times, n times in all.
    """
    table = {(0, 0): 1}
    for x in range(most + 1):
        longer = {}
        for (used, total), count in table.items():
            for more in range(n - used + 1):
                key = (used + more, total + more * x)
                longer[key] = longer.get(key, 0) + count
        table = longer
    return {total: count for (used, total), count in table.items() if used == n}


def stirling(n, k):
    """Ways to put n things into k groups."""
    return sum((-1) ** j * math.comb(k, j) * (k - j) ** n for j in range(k + 1)) // math.factorial(k)


def ballot(n, end):
    """Ways of n steps up or down from 0 to end, never below 0."""
    if (n + end) % 2 == 1 or end > n:
        return 0
    ups = (n + end) // 2
    return math.comb(n, ups) - math.comb(n, ups + 1)


def words_through(n, letters, start, step, ends):
    """How many rows of n numbers lead from start to an end, counted from the front."""
    reached = {start: 1}
    for place in range(n):
        behind = {}
        for state, count in reached.items():
            for x in range(letters):
                after = step(state, x)
                if after is not None:
                    behind[after] = behind.get(after, 0) + count
        reached = behind
    return sum(count for state, count in reached.items() if ends(state))


class Alone(unittest.TestCase):
    def test_choices_and_bags(self):
        for n, k in itertools.product(range(21), repeat=2):
            self.assertEqual(ask_one(made(2, 0, n, k)), [0, k, math.comb(n, k)])
            rows = math.comb(n + k - 1, k) if n > 0 else int(k == 0)
            self.assertEqual(ask_one(made(3, 0, n, k)), [0, k, rows])

    def test_orders(self):
        for counts in ([2, 2, 1, 1, 1, 1, 1, 1], [3, 1, 1, 1, 1, 1, 1, 1], [2, 2, 2, 2, 2], [5, 5], [1] * 8,
                       [0, 0, 4, 0, 3, 0, 2, 1]):
            rows = math.factorial(sum(counts))
            for count in counts:
                rows //= math.factorial(count)
            self.assertEqual(ask_one(made(4, 0, counts)), [0, sum(counts), rows])

    def test_seven_numbers_once_each(self):
        everything = [0b1111110, 0b1111101, 0b1111011, 0b1110111, 0b1101111, 0b1011111, 0b0111111]
        some = [0, 0, 0b11, 0b10, 0b100, 0b1100, 0b10]
        for number, *given in [(5, 7), (6, 7), (7, 7), (13, [0] * 7), (13, some), (15, everything), (15, some)]:
            fits = told(number, *given)[2]
            rows = len([row for row in itertools.permutations(range(7)) if fits(row)])
            self.assertEqual(ask_one(made(number, 0, *given)), [0, 7, rows])

    def test_parts(self):
        for n, most in [(20, 19), (20, 3), (5, 19), (19, 19), (20, 18)]:
            rows = box_partitions(n, most)
            for total in (0, 1, 30, 59, 60):
                self.assertEqual(ask_one(made(8, 0, total, n, most)), [0, n, rows.get(total, 0)])

    def test_shares(self):
        for n, least, most in [(20, 0, 19), (20, 0, 7), (15, 0, 19), (20, 5, 11), (20, 10, 19), (20, 9, 19)]:
            rows = compositions(n, least, most)
            for total in (0, 20, 64, 65, 100, 140, 199, 200):
                self.assertEqual(ask_one(made(9, 0, total, n, least, most)), counted(n, rows.get(total, 0)))

    def test_groups(self):
        for n, k in itertools.product(range(13), repeat=2):
            self.assertEqual(ask_one(made(10, 0, n, k)), [0, n, stirling(n, k)])

    def test_paths(self):
        for n, end in itertools.product(range(21), repeat=2):
            self.assertEqual(ask_one(made(11, 0, n, 20, end)), [0, n, ballot(n, end)])
        self.assertEqual(ask_one(made(11, 0, 20, 2, 0)), [0, 20, 512])

    def test_automaton(self):
        source = random.Random(1)
        for turn in range(5):
            following = [source.randrange(9) for place in range(48)]
            accepting = source.randrange(256)
            rows = words_through(
                16, 6, 0, lambda q, x: following[q * 6 + x] if following[q * 6 + x] < 8 else None,
                lambda q: bit(accepting, q))
            self.assertEqual(ask_one(made(12, 0, 8, 6, accepting, 16, following)), [0, 16, rows])
        self.assertEqual(ask_one(made(12, 0, 8, 6, 255, 16, [7] * 48)), [0, 16, 6 ** 16])

    def test_walks(self):
        self.assertEqual(ask_one(made(14, 0, 16, 8, 8, [255] * 8)), [0, 17, 8 ** 17])
        self.assertEqual(ask_one(made(14, 0, 16, 7, 0, [255] * 8)), [0, 17, 8 ** 15])
        ring = [2 ** ((node + 1) % 8) + 2 ** ((node + 7) % 8) for node in range(8)]
        self.assertEqual(ask_one(made(14, 0, 16, 8, 8, ring)), [0, 17, 8 * 2 ** 16])


class Together(unittest.TestCase):
    def test_words(self):
        calls = [made(1, 0, 20, 8), both(1, 0, 0), both(2, 1, 0)]
        self.assertEqual(ask(*calls), [[0, 20, 2 ** 60]] * 3)

    def test_bags_and_shares(self):
        for n, most, total in [(20, 19, 64), (15, 19, 150), (20, 7, 70), (20, 7, 140), (14, 19, 133)]:
            rows = box_partitions(n, most).get(total, 0)
            answered = ask(made(3, 0, most + 1, n), made(9, 1, total, n, 0, most), both(2, 0, 1), both(3, 2, 0))
            self.assertEqual(answered[2:], [[0, n, rows]] * 2)

    def test_choices_and_shares(self):
        for k, total in [(10, 95), (5, 50), (12, 113)]:
            # Each number less its place: a row that never goes down.
            rows = box_partitions(k, 20 - k).get(total - k * (k - 1) // 2, 0)
            self.assertEqual(ask_one(made(2, 0, 20, k), made(9, 1, total, k, 0, 19), both(2, 0, 1)), [0, k, rows])

    def test_parts_and_shares(self):
        rows = box_partitions(20, 19)[60]
        answered = ask(made(8, 0, 60, 20, 19), made(9, 1, 60, 20, 0, 19), both(2, 0, 1), both(3, 2, 1))
        self.assertEqual(answered, [[0, 20, rows], [0, 20, compositions(20, 0, 19)[60]], [0, 20, rows], [0, 20, rows]])

    def automata_and_shares(self, source):
        """The calls that make kinds 0, 1 and 2, and how many rows the three have in common."""
        one, two = [[source.randrange(8) for place in range(48)] for which in range(2)]
        rows = words_through(
            16, 6, (0, 0, 0), lambda state, x: (one[state[0] * 6 + x], two[state[1] * 6 + x], state[2] + x),
            lambda state: bit(0b10110101, state[0]) and bit(0b01101110, state[1]) and state[2] == 40)
        calls = [made(12, 0, 8, 6, 0b10110101, 16, one), made(12, 1, 8, 6, 0b01101110, 16, two),
                 made(9, 2, 40, 16, 0, 5)]
        return calls, rows

    def test_automata_and_shares(self):
        calls, rows = self.automata_and_shares(random.Random(2))
        self.assertEqual(ask_one(*calls, both(3, 0, 1), both(4, 3, 2)), [0, 16, rows])
        self.assertEqual(ask_one(*calls, both(3, 2, 0), both(4, 1, 3)), [0, 16, rows])

    def test_forty_calls_of_the_largest(self):
        source = random.Random(4)
        line = []
        expected = []
        for turn in range(8):
            calls, rows = self.automata_and_shares(source)
            line += calls + [both(3, 0, 1), both(4, 3, 2)]
            expected.append([0, 16, rows])
        self.assertEqual(len(line), 40)
        self.assertEqual(ask(*line)[4::5], expected)

    def test_automata_and_orders(self):
        source = random.Random(3)
        one, two = [[source.randrange(8) for place in range(48)] for which in range(2)]
        counts = (2, 2, 2, 2, 1, 1)

        def step(state, x):
            left = state[2]
            if left[x] == 0:
                return None
            left = left[:x] + (left[x] - 1,) + left[x + 1:]
            return (one[state[0] * 6 + x], two[state[1] * 6 + x], left)

        rows = words_through(10, 6, (0, 0, counts), step, lambda state: state[0] > 3 and state[1] > 3)
        calls = [made(12, 0, 8, 6, 0b11110000, 10, one), made(12, 1, 8, 6, 0b11110000, 10, two), made(4, 2, [*counts])]
        self.assertEqual(ask_one(*calls, both(3, 0, 1), both(4, 3, 2)), [0, 10, rows])

    def test_walks_and_bags(self):
        masks = [255, 254, 252, 248, 240, 224, 192, 128]
        answered = ask_one(made(14, 0, 16, 8, 8, [255] * 8), made(14, 1, 16, 8, 8, masks), both(2, 0, 1),
                           made(3, 3, 8, 17), both(4, 2, 3))
        self.assertEqual(answered, [0, 17, math.comb(24, 7)])

    def test_seven_numbers_once_each(self):
        kinds = [(5, 7), (6, 7), (7, 7), (13, [0, 0, 0b11, 0, 0b100, 0, 0]), (4, [1] * 7)]
        rows = []
        for number, *given in kinds:
            fits = told(number, *given)[2]
            rows.append({row for row in itertools.permutations(range(7)) if fits(row)})
        for i, j, k in itertools.product(range(len(kinds)), repeat=3):
            calls = [made(kinds[at][0], t, *kinds[at][1:]) for t, at in enumerate((i, j, k))]
            answer = ask_one(*calls, both(3, 0, 1), both(4, 3, 2))
            self.assertEqual(answer, [0, 7, len(rows[i] & rows[j] & rows[k])])


def each_once(n, number, *given):
    """A kind of n numbers once each, as a machine."""
    fits = told(number, *given)[2]
    return machines.rows_listed(n, n, [row for row in itertools.permutations(range(n)) if fits(row)])


def random_following(source):
    """What call 12 is given as following: 8 states, 6 numbers, some without a way."""
    return [source.randrange(9) for place in range(48)]


def largest_alone():
    """The largest of each of the fifteen, as its call is given and as a machine."""
    source = random.Random(22)
    following = random_following(source)
    masks = [source.randrange(256) | 2 ** node for node in range(8)]
    extension = [0, 0, 0b11, 0, 0b100, 0, 0]
    six = [0b111110, 0b111101, 0b111011, 0b110111, 0b101111, 0b011111]
    return [
        ((1, 20, 8), machines.words(20, 8)), ((1, 14, 20), machines.words(14, 20)), ((1, 20, 1), machines.words(20, 1)),
        ((2, 20, 10), machines.choices(20, 10)), ((2, 20, 20), machines.choices(20, 20)),
        ((3, 20, 20), machines.bags(20, 20)),
        ((4, [2, 2, 1, 1, 1, 1, 1, 1]), machines.orders([2, 2, 1, 1, 1, 1, 1, 1])),
        ((5, 7), each_once(7, 5, 7)), ((6, 7), each_once(7, 6, 7)), ((7, 7), each_once(7, 7, 7)),
        ((8, 60, 20, 19), machines.parts(60, 20, 19)),
        ((9, 84, 18, 0, 17), machines.shares(84, 18, 0, 17)), ((9, 200, 20, 8, 19), machines.shares(200, 20, 8, 19)),
        ((10, 12, 5), machines.groups(12, 5)), ((11, 20, 20, 2), machines.paths(20, 20, 2)),
        ((12, 8, 6, 0b11010110, 16, following), machines.automaton(8, 6, 0b11010110, 16, following)),
        ((13, extension), each_once(7, 13, extension)), ((13, [0] * 7), each_once(7, 13, [0] * 7)),
        ((14, 16, 8, 8, masks), machines.walks(16, 8, 8, masks)),
        ((14, 16, 3, 5, masks), machines.walks(16, 3, 5, masks)),
        ((15, [127] * 7), each_once(7, 15, [127] * 7)),
        ((15, six), each_once(6, 15, six)),
    ]


LARGEST_ALONE = largest_alone()


class AskedAtTheirLargest(unittest.TestCase):
    """Each of the calls 16 to 30 on the largest kinds, against machines."""

    def questions(self, machine, i, source):
        """What is asked about the row of number i, and what is to be answered."""
        total = machine.total()
        row = machine.row(i)
        behind = machine.row(i + 1) if i + 1 < total else None
        before = machine.row(i - 1) if i > 0 else None
        # A row that need not be one of the kind.
        other = [*row[:len(row) // 2], *[source.randrange(21) for place in row[len(row) // 2:]]]
        drawn = [source.randrange(2 ** 32) for place in range(40)]
        number, taken = fair_number(total, drawn)
        return [
            (row_of(0, i), [0, *row]), (number_of(0, row), [0, i]),
            (next_of(0, row), [-5] if behind is None else [0, *behind]),
            (previous_of(0, row), [-5] if before is None else [0, *before]),
            (beginning(0, row[:4]), [0, *machine.beginning(row[:4])]),
            (beginning(0, other), [0, *machine.beginning(other)]),
            (rows_from(0, i, 2), [0, len(row), *row] + ([] if behind is None else [len(row), *behind])),
            (fair(total, drawn), [0, number, taken]), (draw(0, drawn), [0, taken, *machine.row(number)])]

    def check(self, making, machine, size):
        """That kind 0 answers all that is asked of it as the machine does."""
        source = random.Random(30)
        total = machine.total()
        asked = [(tell(0), [0, machine.length, machine.letters, size, total])]
        asked += [(row_of(0, total), [-5]), (alike(0, 0), [0, 1])]
        for i in sorted({0, source.randrange(max(1, total)), total - 1}):
            if 0 <= i < total:
                asked += self.questions(machine, i, source)
        p = machine.row(total // 2)[:3] if total > 0 else []
        before, many = machine.beginning(p)
        asked.append((begins(0, 0, p), [0, machine.length, many]))
        asked.append((rows_from(0, 0, 1), [0, machine.length, *machine.row(before)] if total > 0 else [0]))
        answered = ask(*making, *[question for question, answer in asked])[len(making):]
        self.assertEqual(answered, [answer for question, answer in asked], making)

    def test_alone(self):
        for kind, machine in LARGEST_ALONE:
            self.check([made(kind[0], 0, *kind[1:])], machine, 1)

    def test_all_fifteen_are_here(self):
        self.assertEqual({kind[0] for kind, machine in LARGEST_ALONE}, set(range(1, 16)))

    def test_of_two(self):
        for kind, machine in LARGEST_ALONE:
            n = machine.length
            two = machines.Together(machine, machines.shares(3 * n, n, 1, 11))
            for way, letters, fits in (
                (both, min(machine.letters, 12), lambda one, two: one and two),
                (either, max(machine.letters, 12), lambda one, two: one or two),
                (less, machine.letters, lambda one, two: one and not two),
            ):
                making = [made(kind[0], 0, *kind[1:]), made(9, 1, 3 * n, n, 1, 11), way(0, 0, 1)]
                self.check(making, two.kind(letters, fits), 2)

    def test_then_of_two(self):
        for kind, machine in LARGEST_ALONE:
            left = 20 - machine.length
            if left > 0 and machine.total() < 2 ** 48:
                making = [made(kind[0], 0, *kind[1:]), made(3, 1, 5, left)]
                bags = machines.bags(5, left)
                self.check([*making, then(0, 0, 1)], machines.behind_one_another(machine, bags), 2)
                self.check([*making, then(0, 1, 0)], machines.behind_one_another(bags, machine), 2)

    def test_then_of_three(self):
        making = [made(8, 0, 60, 7, 19), made(2, 1, 20, 7), made(7, 2, 6), then(0, 0, 1), then(0, 0, 2)]
        first_two = machines.behind_one_another(machines.parts(60, 7, 19), machines.choices(20, 7))
        self.check(making, machines.behind_one_another(first_two, each_once(6, 7, 6)), 3)

    def test_of_three(self):
        source = random.Random(33)
        one, two = random_following(source), random_following(source)
        three = machines.Together(
            machines.automaton(8, 6, 181, 16, one), machines.automaton(8, 6, 110, 16, two),
            machines.shares(60, 16, 0, 19))
        making = [made(12, 0, 8, 6, 181, 16, one), made(12, 1, 8, 6, 110, 16, two), made(9, 2, 60, 16, 0, 19)]
        for calls, letters, fits in [
            ([either(0, 0, 1), either(0, 0, 2)], 20, lambda x, y, z: x or y or z),
            ([either(2, 2, 1), less(0, 2, 0)], 20, lambda x, y, z: (y or z) and not x),
            ([less(0, 0, 1), either(0, 2, 0)], 20, lambda x, y, z: x and not y or z),
            ([both(0, 0, 2), either(0, 0, 1)], 6, lambda x, y, z: x and z or y),
        ]:
            self.check([*making, *calls], three.kind(letters, fits), 3)

    def test_then_and_the_others(self):
        # Twenty numbers of which the first ten are an order, and whose sum is told.
        making = [made(4, 0, [2, 2, 1, 1, 1, 1, 1, 1]), made(1, 1, 10, 8), made(9, 2, 70, 20, 0, 7)]
        behind = machines.behind_one_another(machines.orders([2, 2, 1, 1, 1, 1, 1, 1]), machines.words(10, 8))
        two = machines.Together(behind, machines.shares(70, 20, 0, 7))
        for calls, fits in (([then(0, 0, 1), both(0, 0, 2)], lambda one, two: one and two),
                            ([then(0, 0, 1), less(0, 0, 2)], lambda one, two: one and not two),
                            ([then(0, 0, 1), either(0, 2, 0)], lambda one, two: one or two)):
            self.check([*making, *calls], two.kind(8, fits), 3)

    def test_alike_of_three_each(self):
        source = random.Random(34)
        one, two = random_following(source), random_following(source)
        making = [made(12, 0, 8, 6, 181, 16, one), made(12, 1, 8, 6, 110, 16, two), made(9, 2, 60, 16, 0, 19)]
        for left, right in [
            ([either(3, 0, 1), either(3, 3, 2)], [either(4, 1, 2), either(4, 0, 4)]),
            ([less(3, 2, 0), less(3, 3, 1)], [either(4, 0, 1), less(4, 2, 4)]),
        ]:
            asked = [alike(3, 4), alike(4, 3), row_of(3, 0), begins(4, 4, [19]), alike(3, 4)]
            answered = ask(*making, *left, *right, *asked)
            self.assertEqual(answered[7:9], [[0, 1]] * 2)
            self.assertEqual(answered[11], [0, 0, *answered[9][1:]])

    def test_a_line_of_the_largest(self):
        source = random.Random(35)
        making = [made(12, t, 8, 6, 181, 16, random_following(source)) for t in range(2)] + [made(9, 2, 60, 16, 0, 19)]
        calls = [either(3, 0, 1), either(4, 3, 2), either(5, 1, 2), either(5, 0, 5), alike(4, 5)] * 3
        calls += [draw(t, [source.randrange(2 ** 32) for place in range(20)]) for t in range(6)]
        calls += [rows_from(t, i, 20) for i in (0, 2 ** 39, 2 ** 62) for t in range(5)] + [alike(5, 4)]
        answered = ask(*making, *calls)
        self.assertEqual(len(answered), 40)
        self.assertEqual([answer[0] for answer in answered], [0] * 40)
        self.assertEqual(answered[7::5][:3] + answered[-1:], [[0, 1]] * 4)


if __name__ == "__main__":
    unittest.main()

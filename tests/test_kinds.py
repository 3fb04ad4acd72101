"""Calls 1 to 15 on ordinary inputs: length, how many rows, and which, against going through all rows."""

import itertools
import random
import unittest

from helpers import NAMES, all_rows, ask, ask_one, both, length_of, made, rows_found, told
from rankroom.room import Room, read_call


class Counts(unittest.TestCase):
    def check(self, number, *given):
        expected = [0, length_of(number, *given), len(all_rows(number, *given))]
        self.assertEqual(ask_one(made(number, 0, *given)), expected, (NAMES[number], given))

    def test_words(self):
        for n, k in itertools.product(range(5), range(5)):
            self.check(1, n, k)

    def test_choices(self):
        for n, k in itertools.product(range(6), range(6)):
            self.check(2, n, k)

    def test_bags(self):
        for n, k in itertools.product(range(6), range(5)):
            self.check(3, n, k)

    def test_orders(self):
        for many in range(4):
            for counts in itertools.product(range(3), repeat=many):
                self.check(4, list(counts))
        self.check(4, [5, 1])
        self.check(4, [1, 0, 0, 2, 1])
        self.check(4, [0, 0, 0, 0, 0, 0, 0, 3])

    def test_derangements(self):
        for n in range(7):
            self.check(5, n)

    def test_involutions(self):
        for n in range(7):
            self.check(6, n)

    def test_zigzags(self):
        for n in range(7):
            self.check(7, n)

    def test_parts(self):
        for total, n, most in itertools.product(range(10), range(5), range(4)):
            self.check(8, total, n, most)

    def test_shares(self):
        for total, n, least, most in itertools.product(range(8), range(4), range(4), range(4)):
            self.check(9, total, n, least, most)

    def test_groups(self):
        for n, k in itertools.product(range(6), range(6)):
            self.check(10, n, k)

    def test_paths(self):
        for n, high, end in itertools.product(range(7), range(5), range(5)):
            self.check(11, n, high, end)

    def test_automaton(self):
        source = random.Random(12)
        for turn in range(300):
            states = source.randint(1, 4)
            k = source.randint(0, 3)
            following = [source.choice([0, 1, 2, 3, 4, 255]) for place in range(states * k)]
            self.check(12, states, k, source.randrange(2 ** states), source.randint(0, 4), following)

    def test_extensions(self):
        for n in range(4):
            for masks in itertools.product(range(2 ** n), repeat=n):
                self.check(13, list(masks))
        source = random.Random(13)
        for turn in range(40):
            n = source.choice([4, 5])
            self.check(13, [source.randrange(2 ** n) & source.randrange(2 ** v) for v in range(n)])

    def test_walks(self):
        for masks in itertools.product(range(4), repeat=2):
            for n, start, end in itertools.product(range(4), range(3), range(3)):
                self.check(14, n, start, end, list(masks))
        source = random.Random(14)
        for turn in range(200):
            nodes = source.choice([1, 3, 4])
            masks = [source.randrange(2 ** nodes) for node in range(nodes)]
            self.check(14, source.randint(0, 3), source.randint(0, nodes), source.randint(0, nodes), masks)

    def test_matchings(self):
        for n in range(4):
            for masks in itertools.product(range(2 ** n), repeat=n):
                self.check(15, list(masks))
        source = random.Random(15)
        for turn in range(60):
            n = source.choice([4, 4, 4, 5, 6])
            self.check(15, [source.randrange(2 ** n) | source.randrange(2 ** n) for place in range(n)])


# One of each, small enough that each row there could be is asked for.
SAMPLES = [
    (1, 3, 4), (2, 5, 3), (3, 4, 3), (4, [2, 0, 1, 1]), (5, 4), (6, 4), (7, 4), (8, 5, 4, 3), (9, 6, 3, 1, 4),
    (10, 5, 3), (11, 6, 2, 0), (12, 3, 3, 0b101, 4, [1, 2, 0, 2, 3, 1, 255, 0, 1]), (13, [0, 1, 0, 2]),
    (14, 3, 1, 4, [0b1010, 0b1101, 0b0110, 0b0011]), (14, 3, 4, 2, [0b1010, 0b1101, 0b0110, 0b0011]),
    (15, [0b1110, 0b1101, 0b1011, 0b0011]),
]


class Rows(unittest.TestCase):
    """That the rows are those told, not only as many."""

    def test_rows(self):
        for number, *given in SAMPLES:
            expected = all_rows(number, *given)
            self.assertGreater(len(expected), 1, NAMES[number])
            letters = min(6, max(max(row) for row in expected) + 2)
            candidates = list(itertools.product(range(letters), repeat=len(expected[0])))
            self.assertEqual(rows_found(candidates, made(number, 0, *given)), expected, (NAMES[number], given))


class LettersAndSize(unittest.TestCase):
    def kind(self, *calls):
        """Kind 0 as the room keeps it: no call of these tells its letters."""
        room = Room()
        for call in calls:
            room.answer(read_call(call, 0))
        return room.kinds[0]

    def test_letters(self):
        for number, *given in SAMPLES:
            self.assertEqual(self.kind(made(number, 0, *given)).letters, told(number, *given)[1], NAMES[number])

    def test_letters_of_both(self):
        kinds = [(1, 4, 3), (8, 5, 4, 3), (11, 4, 2, 0), (2, 20, 4), (1, 4, 0)]
        for first, second in itertools.product(kinds, repeat=2):
            kind = self.kind(made(first[0], 0, *first[1:]), made(second[0], 1, *second[1:]), both(0, 0, 1))
            self.assertEqual(kind.letters, min(told(*first)[1], told(*second)[1]))

    def test_each_has_size_one(self):
        for number, *given in SAMPLES:
            answered = ask(made(number, 0, *given), both(1, 0, 0), both(2, 1, 0), both(3, 1, 1), both(3, 2, 0))
            self.assertEqual(answered[1:], [answered[0], answered[0], [-2], [-2]], NAMES[number])
            self.assertEqual(self.kind(made(number, 0, *given)).size, 1)


class EmptyRow(unittest.TestCase):
    """Kinds of length 0: the empty row, if that's as told."""

    def test_where_it_is_one(self):
        for number, *given in [
            (1, 0, 0), (1, 0, 20), (2, 0, 0), (2, 20, 0), (3, 0, 0), (3, 20, 0), (4, []), (4, [0] * 8),
            (5, 0), (6, 0), (7, 0), (8, 0, 0, 0), (8, 0, 0, 19), (9, 0, 0, 0, 19), (9, 0, 0, 19, 0), (10, 0, 0),
            (11, 0, 0, 0), (11, 0, 20, 0), (12, 1, 0, 1, 0, []), (12, 2, 1, 0b01, 0, [255, 255]), (13, []), (15, []),
        ]:
            self.assertEqual(ask_one(made(number, 0, *given)), [0, 0, 1], (NAMES[number], given))

    def test_where_it_is_none(self):
        for number, *given in [
            (8, 1, 0, 19), (8, 60, 0, 0), (9, 1, 0, 0, 19), (9, 200, 0, 0, 0), (10, 0, 1), (10, 0, 12),
            (11, 0, 20, 1), (11, 0, 0, 20), (12, 1, 0, 0, 0, []), (12, 2, 1, 0b10, 0, [1, 1]),
        ]:
            self.assertEqual(ask_one(made(number, 0, *given)), [0, 0, 0], (NAMES[number], given))


class NoRows(unittest.TestCase):
    def test_kinds_without_rows(self):
        for number, length, *given in [
            (1, 20, 20, 0), (2, 20, 19, 20), (2, 1, 0, 1), (3, 20, 0, 20), (5, 1, 1), (8, 20, 60, 20, 2),
            (8, 3, 7, 3, 2), (9, 20, 200, 20, 11, 19), (9, 3, 9, 3, 4, 3), (9, 3, 10, 3, 0, 3), (10, 5, 5, 6),
            (10, 5, 5, 0), (11, 3, 3, 20, 0), (11, 1, 1, 0, 1), (11, 4, 4, 1, 2), (12, 16, 1, 0, 1, 16, []),
            (12, 1, 1, 1, 1, 1, [1]), (13, 2, [0b10, 0b01]), (14, 2, 1, 0, 0, [0]), (15, 3, [7, 7, 7]),
            (15, 7, [127] * 7),
        ]:
            self.assertEqual(ask_one(made(number, 0, *given)), [0, length, 0], (NAMES[number], given))


class NamedEdges(unittest.TestCase):
    def test_any_start_and_end(self):
        masks = [0b110, 0b001, 0b010]
        for start, end in itertools.product(range(4), repeat=2):
            for n in range(4):
                rows = all_rows(14, n, start, end, masks)
                self.assertEqual(ask_one(made(14, 0, n, start, end, masks)), [0, n + 1, len(rows)])

    def test_walk_of_one_number(self):
        self.assertEqual(ask_one(made(14, 0, 0, 2, 2, [0, 0, 0])), [0, 1, 1])
        self.assertEqual(ask_one(made(14, 0, 0, 1, 2, [7, 7, 7])), [0, 1, 0])
        self.assertEqual(ask_one(made(14, 0, 0, 3, 3, [0, 0, 0])), [0, 1, 3])
        self.assertEqual(ask_one(made(14, 0, 0, 3, 1, [0, 0, 0])), [0, 1, 1])
        self.assertEqual(ask_one(made(14, 0, 0, 1, 3, [0, 0, 0])), [0, 1, 1])

    def test_extension_mask_with_its_own_bit(self):
        for n in range(1, 8):
            for own in range(n):
                masks = [0] * n
                masks[own] = 2 ** own
                self.assertEqual(ask_one(made(13, 0, masks)), [0, n, 0])

    def test_automaton_next_not_below_states(self):
        for no_way in (2, 3, 254, 255):
            self.assertEqual(ask_one(made(12, 0, 2, 2, 0b11, 3, [0, 1, no_way, 0])), [0, 3, 5])
        self.assertEqual(ask_one(made(12, 0, 2, 2, 0b11, 3, [0, 1, 1, 0])), [0, 3, 8])
        self.assertEqual(ask_one(made(12, 0, 2, 2, 0b11, 3, [2, 2, 0, 0])), [0, 3, 0])

    def test_matching_needs_both_bits(self):
        self.assertEqual(ask_one(made(15, 0, [0b10, 0b01])), [0, 2, 1])
        self.assertEqual(ask_one(made(15, 0, [0b10, 0b00])), [0, 2, 0])
        self.assertEqual(ask_one(made(15, 0, [0b00, 0b01])), [0, 2, 0])
        self.assertEqual(ask_one(made(15, 0, [0b01, 0b10])), [0, 2, 0])


if __name__ == "__main__":
    unittest.main()

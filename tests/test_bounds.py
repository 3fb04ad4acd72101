"""Each bound of the calls 1 to 15 at its last allowed value and one past it; lists as long as told."""

import unittest

from helpers import LARGEST, NAMES, ask_one, both, made

# A call within its bounds, one at its last allowed value, and what is answered.
WITHIN = [
    (1, (20, 1), [0, 20, 1]), (1, (1, 20), [0, 1, 20]), (1, (20, 0), [0, 20, 0]), (1, (0, 20), [0, 0, 1]),
    (2, (20, 1), [0, 1, 20]), (2, (20, 20), [0, 20, 1]), (2, (0, 20), [0, 20, 0]),
    (3, (20, 1), [0, 1, 20]), (3, (1, 20), [0, 20, 1]), (3, (20, 0), [0, 0, 1]),
    (4, ([],), [0, 0, 1]), (4, ([0] * 8,), [0, 0, 1]), (4, ([10],), [0, 10, 1]), (4, ([0] * 7 + [10],), [0, 10, 1]),
    (4, ([2, 2, 1, 1, 1, 1, 1, 1],), [0, 10, 907200]),
    (5, (7,), [0, 7, 1854]), (6, (7,), [0, 7, 232]), (7, (7,), [0, 7, 272]),
    (8, (60, 20, 3), [0, 20, 1]), (8, (60, 0, 0), [0, 0, 0]), (8, (0, 20, 0), [0, 20, 1]), (8, (19, 1, 19), [0, 1, 1]),
    (9, (200, 20, 10, 10), [0, 20, 1]), (9, (200, 1, 0, 0), [0, 1, 0]), (9, (0, 20, 0, 0), [0, 20, 1]),
    (9, (19, 1, 19, 19), [0, 1, 1]), (9, (19, 1, 19, 0), [0, 1, 0]), (9, (19, 1, 0, 19), [0, 1, 1]),
    (10, (12, 1), [0, 12, 1]), (10, (12, 12), [0, 12, 1]), (10, (0, 12), [0, 0, 0]),
    (11, (20, 20, 20), [0, 20, 1]), (11, (20, 1, 0), [0, 20, 1]), (11, (0, 20, 0), [0, 0, 1]),
    (11, (0, 0, 20), [0, 0, 0]),
    (12, (1, 1, 1, 16, [0]), [0, 16, 1]), (12, (8, 1, 1, 16, [1, 2, 3, 4, 5, 6, 7, 0]), [0, 16, 1]),
    (12, (1, 6, 1, 1, [0] * 6), [0, 1, 6]), (12, (1, 6, 1, 1, [0] * 5 + [255]), [0, 1, 5]),
    (12, (1, 1, 0, 16, [0]), [0, 16, 0]), (12, (2, 1, 3, 2, [1, 0]), [0, 2, 1]),
    (12, (8, 6, 255, 1, [255] * 48), [0, 1, 0]), (12, (8, 0, 255, 0, []), [0, 0, 1]),
    (13, ([],), [0, 0, 1]), (13, ([0],), [0, 1, 1]), (13, ([1],), [0, 1, 0]), (13, ([0] * 7,), [0, 7, 5040]),
    (13, ([127] * 7,), [0, 7, 0]), (13, ([0, 1, 3, 7, 15, 31, 63],), [0, 7, 1]),
    (14, (16, 1, 1, [1]), [0, 17, 1]), (14, (16, 8, 8, [1] * 8), [0, 17, 8]), (14, (0, 7, 7, [255] * 8), [0, 1, 1]),
    (14, (1, 8, 8, [255] * 8), [0, 2, 64]), (14, (1, 0, 8, [255] * 8), [0, 2, 8]),
    (14, (1, 8, 0, [255] * 8), [0, 2, 8]),
    (15, ([],), [0, 0, 1]), (15, ([1],), [0, 1, 0]), (15, ([3, 3],), [0, 2, 1]), (15, ([0] * 7,), [0, 7, 0]),
    (15, ([63] * 6,), [0, 6, 15]), (15, ([127] * 7,), [0, 7, 0]),
]

# A call of which one bound is passed, by one or by far.
PAST = [
    (1, (21, 1)), (1, (1, 21)), (1, (21, 0)), (1, (0, 21)), (1, (LARGEST, 0)), (1, (0, LARGEST)),
    (2, (21, 1)), (2, (1, 21)), (2, (21, 0)), (2, (0, 21)), (2, (LARGEST, 1)), (2, (1, LARGEST)),
    (3, (21, 1)), (3, (1, 21)), (3, (21, 0)), (3, (0, 21)), (3, (LARGEST, 1)), (3, (1, LARGEST)),
    (4, ([0] * 9,)), (4, ([1] * 9,)), (4, ([11],)), (4, ([5, 6],)), (4, ([3, 2, 1, 1, 1, 1, 1, 1],)),
    (4, ([LARGEST],)), (4, ([0] * 3900,)),
    (5, (8,)), (5, (LARGEST,)), (6, (8,)), (6, (LARGEST,)), (7, (8,)), (7, (LARGEST,)),
    (8, (61, 20, 19)), (8, (0, 21, 0)), (8, (0, 1, 20)), (8, (61, 0, 0)), (8, (0, 0, 20)),
    (8, (LARGEST, 1, 1)), (8, (1, LARGEST, 1)), (8, (1, 1, LARGEST)),
    (9, (201, 20, 0, 19)), (9, (0, 21, 0, 0)), (9, (20, 1, 20, 19)), (9, (20, 1, 19, 20)), (9, (201, 0, 0, 0)),
    (9, (0, 0, 20, 0)), (9, (0, 0, 0, 20)),
    (9, (LARGEST, 1, 1, 1)), (9, (1, LARGEST, 1, 1)), (9, (1, 1, LARGEST, 1)), (9, (1, 1, 1, LARGEST)),
    (10, (13, 1)), (10, (12, 13)), (10, (13, 0)), (10, (0, 13)), (10, (LARGEST, 1)), (10, (1, LARGEST)),
    (11, (21, 20, 1)), (11, (20, 21, 20)), (11, (20, 20, 21)), (11, (0, 21, 0)), (11, (0, 0, 21)), (11, (21, 0, 0)),
    (11, (LARGEST, 1, 1)), (11, (1, LARGEST, 1)), (11, (1, 1, LARGEST)),
    (12, (0, 1, 0, 1, [])), (12, (0, 0, 0, 0, [])), (12, (9, 1, 1, 1, [0] * 9)), (12, (9, 0, 1, 0, [])),
    (12, (1, 7, 1, 1, [0] * 7)), (12, (1, 1, 2, 1, [0])), (12, (8, 1, 256, 1, [0] * 8)), (12, (1, 1, 1, 17, [0])),
    (12, (1, 1, 1, 1, [256])), (12, (2, 2, 1, 1, [0, 0, 0, LARGEST])), (12, (8, 6, 1, 0, [0] * 47 + [256])),
    (12, (LARGEST, 1, 1, 1, [0])), (12, (1, LARGEST, 1, 1, [0])), (12, (1, 1, LARGEST, 1, [0])),
    (12, (1, 1, 1, LARGEST, [0])), (12, (LARGEST, LARGEST, LARGEST, LARGEST, [])),
    (13, ([0] * 8,)), (13, ([0] * 9,)), (13, ([2],)), (13, ([0, 4],)), (13, ([0] * 6 + [128],)), (13, ([LARGEST],)),
    (13, ([0] * 3900,)),
    (14, (0, 0, 0, [])), (14, (1, 0, 0, [1] * 9)), (14, (17, 1, 1, [1])), (14, (1, 2, 0, [1])), (14, (1, 0, 2, [1])),
    (14, (1, 9, 8, [255] * 8)), (14, (1, 8, 9, [255] * 8)), (14, (1, 1, 1, [2])), (14, (1, 0, 0, [255] * 7 + [256])),
    (14, (LARGEST, 0, 0, [1])), (14, (1, LARGEST, 0, [1])), (14, (1, 0, LARGEST, [1])), (14, (1, 0, 0, [LARGEST])),
    (14, (1, 0, 0, [0] * 3900)),
    (15, ([0] * 8,)), (15, ([0] * 9,)), (15, ([2],)), (15, ([4, 1],)), (15, ([0] * 6 + [128],)), (15, ([LARGEST],)),
    (15, ([0] * 3900,)),
]


class Bounds(unittest.TestCase):
    def test_last_allowed(self):
        for number, given, answer in WITHIN:
            self.assertEqual(ask_one(made(number, 0, *given)), answer, (NAMES[number], given))

    def test_one_past(self):
        for number, given in PAST:
            self.assertEqual(ask_one(made(number, 0, *given)), [-1], (NAMES[number], given))

    def test_each_call_is_here(self):
        self.assertEqual({row[0] for row in WITHIN}, set(range(1, 16)))
        self.assertEqual({row[0] for row in PAST}, set(range(1, 16)))


class NumbersForKinds(unittest.TestCase):
    def test_each_number_up_to_five(self):
        for number, given, answer in WITHIN:
            for t in range(6):
                self.assertEqual(ask_one(made(number, t, *given)), answer, (NAMES[number], given))

    def test_none_above_five(self):
        for number, given, answer in WITHIN:
            for t in (6, 7, LARGEST):
                self.assertEqual(ask_one(made(number, t, *given)), [-1], (NAMES[number], given))

    def test_both_above_five(self):
        for t in range(6):
            self.assertEqual(ask_one([1, 3, 2, 2], both(t, 3, 3)), [0, 2, 4])
        for t in (6, 7, LARGEST):
            self.assertEqual(ask_one([1, 3, 2, 2], both(t, 3, 3)), [-1])


class AutomatonList(unittest.TestCase):
    """The one list whose length is told by other numbers."""

    def test_as_long_as_told(self):
        for states in range(1, 9):
            for k in range(7):
                just = [0] * (states * k)
                self.assertEqual(ask_one(made(12, 0, states, k, 1, 2, just)), [0, 2, k * k])
                for wrong in ([], just[1:], just + [0]):
                    if len(wrong) != len(just):
                        self.assertEqual(ask_one(made(12, 0, states, k, 1, 2, wrong)), [-1], (states, k, len(wrong)))

    def test_accepting_below_two_to_the_states(self):
        for states in range(1, 9):
            self.assertEqual(ask_one(made(12, 0, states, 1, 2 ** states - 1, 1, [0] * states)), [0, 1, 1])
            self.assertEqual(ask_one(made(12, 0, states, 1, 2 ** states, 1, [0] * states)), [-1])


class MaskLists(unittest.TestCase):
    def test_masks_below_two_to_their_number(self):
        for n in range(1, 8):
            for number in (13, 15):
                length = n
                self.assertEqual(ask_one(made(number, 0, [0] * (n - 1) + [2 ** n - 1]))[:2], [0, length])
                self.assertEqual(ask_one(made(number, 0, [0] * (n - 1) + [2 ** n])), [-1])
                self.assertEqual(ask_one(made(number, 0, [2 ** n] + [0] * (n - 1))), [-1])
        for nodes in range(1, 9):
            self.assertEqual(ask_one(made(14, 0, 1, nodes, nodes, [2 ** nodes - 1] * nodes)), [0, 2, nodes * nodes])
            self.assertEqual(ask_one(made(14, 0, 1, nodes, nodes, [0] * (nodes - 1) + [2 ** nodes])), [-1])

    def test_start_and_end_up_to_the_nodes(self):
        for nodes in range(1, 9):
            masks = [2 ** nodes - 1] * nodes
            self.assertEqual(ask_one(made(14, 0, 2, nodes - 1, nodes - 1, masks)), [0, 3, nodes])
            self.assertEqual(ask_one(made(14, 0, 2, nodes, nodes - 1, masks)), [0, 3, nodes ** 2])
            self.assertEqual(ask_one(made(14, 0, 2, nodes - 1, nodes, masks)), [0, 3, nodes ** 2])
            self.assertEqual(ask_one(made(14, 0, 2, nodes + 1, 0, masks)), [-1])
            self.assertEqual(ask_one(made(14, 0, 2, 0, nodes + 1, masks)), [-1])


if __name__ == "__main__":
    unittest.main()

"""The interface: many calls in one list, how answers stand, and that nothing is kept or changed."""

import copy
import random
import unittest

from helpers import (
    LARGEST, alike, ask, begins, beginning, both, draw, drop, either, fair, less, made, next_of, number_of, previous_of,
    row_of, rows_from, tell, then)
from model import BY_LENGTH, POOL, Model
from rankroom.room import answers


class Answers(unittest.TestCase):
    def test_how_answers_stand(self):
        self.assertEqual(answers([1, 0, 2, 3]), [3, 0, 2, 9])
        self.assertEqual(answers([1, 6, 2, 3]), [1, -1])
        self.assertEqual(answers([16, 0, 0, 0]), [1, -3])
        self.assertEqual(
            answers([1, 0, 2, 3, 3, 1, 3, 2, 16, 2, 0, 1, 16, 2, 2, 2, 1, 1, 20, 20]),
            [3, 0, 2, 9, 3, 0, 2, 6, 3, 0, 2, 6, 1, -2, 1, -4])

    def test_how_lists_stand(self):
        self.assertEqual(answers([4, 0, 0]), [3, 0, 0, 1])
        self.assertEqual(answers([4, 0, 2, 1, 2, 4, 1, 0, 5, 2, 2]), [3, 0, 3, 3, 3, 0, 0, 1, 3, 0, 2, 1])
        self.assertEqual(answers([12, 0, 1, 2, 1, 3, 2, 0, 1, 1, 1, 1, 1]), [3, 0, 3, 1, 3, 0, 1, 1])
        self.assertEqual(answers([13, 0, 2, 0, 1, 13, 1, 1, 0]), [3, 0, 2, 1, 3, 0, 1, 1])
        self.assertEqual(answers([14, 0, 2, 0, 2, 2, 3, 3, 1, 0, 1, 1]), [3, 0, 3, 4, 3, 0, 1, 1])
        self.assertEqual(answers([15, 0, 2, 2, 1, 15, 1, 0]), [3, 0, 2, 1, 3, 0, 0, 1])

    def test_how_the_later_calls_stand(self):
        made_first = [3, 0, 3, 2, 1, 1, 2, 2]  # bags 00 01 02 11 12 22; words 00 01 10 11
        answered_first = [3, 0, 2, 6, 3, 0, 2, 4]
        for call, answer in [
            ([17, 2, 0, 1], [3, 0, 2, 7]), ([18, 2, 0, 1], [3, 0, 2, 3]), ([19, 2, 0, 1], [3, 0, 4, 24]),
            ([20, 2, 0, 1, 1], [3, 0, 2, 2]), ([20, 2, 0, 0], [3, 0, 2, 6]), ([20, 2, 0, 2, 1, 0], [3, 0, 2, 0]),
            ([21, 0], [5, 0, 2, 3, 1, 6]), ([22, 0, 4], [3, 0, 1, 2]), ([22, 0, 6], [1, -5]),
            ([23, 0, 2, 1, 2], [2, 0, 4]), ([23, 0, 2, 1, 0], [2, -9, 1]), ([23, 0, 0], [1, -2]),
            ([24, 0, 2, 1, 0], [3, 0, 1, 1]), ([24, 0, 2, 2, 2], [1, -5]), ([25, 0, 2, 1, 0], [3, 0, 0, 2]),
            ([26, 0, 1, 1], [3, 0, 3, 2]), ([26, 0, 0], [3, 0, 0, 6]), ([27, 0, 4, 3], [7, 0, 2, 1, 2, 2, 2, 2]),
            ([27, 0, 6, 3], [1, 0]), ([27, 0, 0, 21], [1, -1]), ([28, 0, 2, 0, 4294967295], [4, 0, 2, 2, 2]),
            ([28, 0, 0], [1, -6]), ([29, 6, 3, 0, 4294967295, 7], [3, 0, 5, 2]), ([29, 1, 0], [3, 0, 0, 0]),
            ([29, 0, 1, 1], [1, -1]), ([30, 0, 1], [4, 0, 0, 0, 2]), ([30, 0, 0], [2, 0, 1]), ([30, 0, 5], [1, -3]),
            ([31, 0], [1, 0]), ([31, 5], [1, -3]),
        ]:
            # The call behind shows where the program takes this one to end.
            self.assertEqual(answers(made_first + call + [21, 1]), answered_first + answer + [5, 0, 2, 2, 1, 4], call)

    def test_rows_of_length_nought(self):
        self.assertEqual(answers([1, 0, 0, 3, 27, 0, 0, 20, 22, 0, 0]), [3, 0, 0, 1, 2, 0, 0, 1, 0])
        self.assertEqual(answers([1, 0, 0, 3, 28, 0, 0, 23, 0, 0]), [3, 0, 0, 1, 2, 0, 0, 2, 0, 0])
        self.assertEqual(answers([1, 0, 0, 3, 8, 1, 1, 0, 3, 30, 0, 1]), [3, 0, 0, 1, 3, 0, 0, 0, 2, 0, 0])

    def test_lists_of_refused_calls_are_passed_over(self):
        after = [1, 0, 1, 7]
        for refused in ([4, 0, 9] + [0] * 9, [4, 6, 2, 1, 1], [12, 9, 1, 1, 1, 1, 3, 1, 1, 1], [13, 6, 1, 0],
                        [13, 0, 8] + [1] * 8, [14, 0, 1, 0, 0, 0], [14, 0, 1, 0, 0, 9] + [1] * 9, [15, 7, 0],
                        [15, 0, 3990] + [1] * 3990):
            self.assertEqual(answers(refused + after), [1, -1, 3, 0, 1, 7], refused[:8])
        for refused in ([20, 1, 0, 2, 9, 9], [23, 0, 3, 1, 1, 1], [24, 3, 1, 31], [25, 3, 2, 31, 0], [26, 3, 1, 31],
                        [28, 0, 3990] + [31] * 3990, [20, 1, 0, 0]):
            self.assertEqual(answers(refused + after), [1, -3, 3, 0, 1, 7], refused[:8])
        self.assertEqual(answers([29, 0, 3, 31, 0, 31] + after), [1, -1, 3, 0, 1, 7])
        self.assertEqual(answers([29, 2 ** 62, 1, 31] + after), [1, -6, 3, 0, 1, 7])


class Order(unittest.TestCase):
    def test_forty_calls(self):
        calls = [made(1, at % 6, 1, at % 21) for at in range(40)]
        self.assertEqual(ask(*calls), [[0, 1, at % 21] for at in range(40)])

    def test_forty_calls_one_upon_another(self):
        calls = []
        expected = []
        for k in range(1, 11):
            calls += [made(1, 0, 2, k), made(2, 1, k + 1, 2), both(2, 0, 1), both(0, 2, 2)]
            expected += [[0, 2, k * k], [0, 2, k * (k + 1) // 2], [0, 2, k * (k - 1) // 2], [-2]]
        self.assertEqual(len(calls), 40)
        self.assertEqual(ask(*calls), expected)

    def test_a_call_sees_only_those_before_it(self):
        self.assertEqual(ask(both(1, 0, 0), made(1, 0, 2, 2), both(1, 0, 0)), [[-3], [0, 2, 4], [0, 2, 4]])

    def test_a_kind_made_anew_takes_the_place(self):
        answered = ask(made(1, 0, 2, 2), made(7, 0, 4), both(1, 0, 0), made(1, 1, 2, 2), both(2, 0, 1))
        self.assertEqual(answered, [[0, 2, 4], [0, 4, 5], [0, 4, 5], [0, 2, 4], [-2]])

    def test_all_numbers_for_kinds_at_once(self):
        calls = [made(1, t, 3, t + 1) for t in range(6)]
        shown = [both(t, t, t) for t in range(6)]
        expected = [[0, 3, (t + 1) ** 3] for t in range(6)]
        self.assertEqual(ask(*calls, *shown), expected + expected)

    def test_forty_calls_of_all_sorts(self):
        calls = [
            made(3, 0, 3, 2), made(1, 1, 2, 2), both(2, 0, 1), either(3, 0, 1), less(4, 0, 1), then(5, 0, 1),
            begins(1, 1, [1]), tell(0), tell(1), tell(2), tell(3), tell(4), tell(5), row_of(5, 23),
            number_of(5, [2, 2, 1, 1]),
            next_of(5, [0, 0, 1, 1]), previous_of(5, [0, 1, 0, 0]), beginning(5, [1]), rows_from(3, 5, 20),
            fair(7, [0, 9]),
            draw(4, [LARGEST]), alike(0, 3), alike(0, 4), drop(0), tell(0), alike(0, 3), then(0, 2, 2), tell(0),
            less(3, 3, 1),
            tell(3), drop(1), drop(1), either(1, 4, 2), tell(1), begins(5, 5, [2, 2]), rows_from(5, 0, 20), drop(2),
            drop(3),
            drop(4), alike(5, 5)]
        self.assertEqual(len(calls), 40)
        self.assertEqual(ask(*calls), [
            [0, 2, 6], [0, 2, 4], [0, 2, 3], [0, 2, 7], [0, 2, 3], [0, 4, 24],
            [0, 2, 2], [0, 2, 3, 1, 6], [0, 2, 2, 1, 2], [0, 2, 2, 2, 3], [0, 2, 3, 2, 7], [0, 2, 3, 2, 3],
            [0, 4, 3, 2, 24],
            [0, 2, 2, 1, 1], [0, 23],
            [0, 0, 1, 0, 0], [0, 0, 0, 1, 1], [0, 12, 8], [0, 2, 1, 2, 2, 2, 2], [0, 0, 2],
            [0, 1, 2, 2], [0, 0, 1, 0], [0, 0, 0, 0], [0], [-3], [-3], [-2], [-3], [0, 2, 5],
            [0, 2, 3, 3, 5], [0], [-3], [-2], [-3], [0, 4, 4],
            [0, 4, 2, 2, 0, 0, 4, 2, 2, 0, 1, 4, 2, 2, 1, 0, 4, 2, 2, 1, 1], [0], [0],
            [0], [0, 1]])

    def test_four_thousand_numbers(self):
        calls = [made(13, 0, [0] * 98) for at in range(39)] + [made(4, 0, [1, 1])]
        self.assertEqual(ask(*calls), [[-1]] * 39 + [[0, 2, 2]])


def random_call(source, kinds):
    """A call that may well be refused; kinds are those that the room has."""
    number = source.choice([*range(1, 16), *range(16, 21), *range(16, 21), *range(21, 29), *range(21, 32)])
    t, a, b = [source.choice([0, 1, 2, 3, 4, 5, source.choice([*kinds, 6])]) for which in range(3)]
    length = kinds[a].length if a in kinds else source.randint(0, 4)
    words = [source.choice([0, source.randrange(2 ** 32)]) for place in range(source.randint(0, 4))]
    row = random_row(source, length, kinds[a].rows if a in kinds else [])
    cut = (row + [0])[:source.randint(0, length + 1)]
    if number <= 15:
        return random_kind(source, t, length)
    if number <= 19:
        return made(number, t, a, b)
    if number == 29:
        return fair(source.choice([0, 1, 2, 3, 2 ** 32 + 1, 2 ** 62, 2 ** 62 + 1]), words)
    others = {
        20: begins(t, a, cut), 21: tell(a), 22: row_of(a, source.choice([0, 1, 2, 9, 2 ** 63 - 1])),
        26: beginning(a, cut),
        27: rows_from(a, source.choice([0, 1, 5]), source.choice([0, 3, 20, 21])), 28: draw(a, words), 30: alike(a, b),
        31: drop(a)}
    return others.get(number, made(number, a, cut if source.random() < 0.1 else row))


def random_row(source, length, rows):
    """A row so long, often one that begins like one of these."""
    row = [source.choice([0, 0, 1, 1, 2, 3, 4, 5, LARGEST]) for place in range(length)]
    if rows and source.random() < 0.7:
        same = source.randint(0, length)
        row[:same] = source.choice(rows)[:same]
    return row


def random_kind(source, t, length):
    """One of the fifteen as kind t, most often with rows so long."""
    places = BY_LENGTH.get(length, range(len(POOL)))
    number, *given = POOL[source.choice(places if source.random() < 0.7 else range(len(POOL)))]
    return made(number, t, *given)


class AgainstTheModel(unittest.TestCase):
    """Whole lines of 40 calls of all sorts, against a room that is lists of rows."""

    def test_random_lines(self):
        source = random.Random(40)
        answered = {}
        for turn in range(400):
            model = Model()
            calls = []
            expected = []
            while len(calls) < 40:
                call = random_call(source, model.kinds)
                kept = dict(model.kinds)
                answer = model.answer_call(call)
                if call[0] == 19 and answer[0] == 0 and answer[2] > 300:
                    model.kinds = kept
                    continue
                calls.append(call)
                expected.append(answer)
                answered.setdefault(call[0], set()).add(answer[0])
            self.assertEqual(ask(*calls), expected, calls)
        refusals = {16: {-1, -2, -3}, 17: {-1, -2, -3}, 18: {-1, -2, -3}, 19: {-1, -2, -3}, 20: {-1, -2, -3}, 21: {-3},
                    22: {-3, -5}, 23: {-2, -3, -9}, 24: {-2, -3, -5}, 25: {-2, -3, -5}, 26: {-2, -3}, 27: {-1, -3},
                    28: {-3, -5, -6}, 29: {-1, -6}, 30: {-2, -3}, 31: {-3}}
        for number, some in refusals.items():
            self.assertEqual(answered[number], some | {0}, number)


class NothingKept(unittest.TestCase):
    LINE = (
        made(1, 0, 3, 3) + made(4, 1, [1, 1, 1]) + made(12, 2, 2, 2, 3, 3, [0, 1, 1, 0]) + made(13, 3, [0, 1, 0])
        + made(14, 4, 2, 3, 0, [7, 7, 7]) + made(15, 5, [2, 1]) + both(5, 0, 1) + both(4, 4, 5) + both(6, 0, 0)
        + either(4, 0, 1) + less(3, 0, 1) + then(5, 0, 1) + begins(2, 0, [1, 2]) + tell(5) + row_of(5, 7)
        + number_of(0, [1, 2, 0]) + number_of(0, [1, 3, 0]) + next_of(0, [1, 2, 3]) + previous_of(0, [1, 2, 3])
        + beginning(0, [1, 2]) + rows_from(0, 20, 20) + draw(0, [0, 1, 2]) + fair(9, [0, 1, 2]) + alike(0, 3) + drop(2))

    def test_the_list_handed_in_stays_as_it_was(self):
        handed = list(self.LINE)
        before = copy.deepcopy(handed)
        answers(handed)
        self.assertEqual(handed, before)

    def test_the_list_is_never_written_to(self):
        class Guarded(list):
            def refuse(self, *given):
                raise AssertionError("the list was written to")

            append = extend = insert = pop = remove = clear = reverse = sort = refuse
            __setitem__ = __delitem__ = __iadd__ = __imul__ = refuse

        self.assertEqual(answers(Guarded(self.LINE)), answers(list(self.LINE)))

    def test_a_second_line_knows_nothing_of_the_first(self):
        first = answers(list(self.LINE))
        self.assertEqual(answers([16, 0, 0, 0, 16, 1, 4, 5]), [1, -3, 1, -3])
        for t in range(6):
            for question in (
                tell(t), row_of(t, 0), number_of(t, []), next_of(t, []), previous_of(t, []), beginning(t, []),
                rows_from(t, 0, 1), draw(t, []), alike(t, t), drop(t), begins(0, t, []), then(0, t, t),
            ):
                self.assertEqual(answers(question), [1, -3])
        self.assertEqual(answers(list(self.LINE)), first)

    def test_what_is_given_back_is_new(self):
        first = answers(list(self.LINE))
        kept = list(first)
        second = answers(list(self.LINE))
        second.append(7)
        second[0] = 9
        self.assertEqual(first, kept)
        self.assertEqual(answers(list(self.LINE)), kept)


if __name__ == "__main__":
    unittest.main()

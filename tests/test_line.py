"""The interface: many calls in one list, how answers stand, and that nothing is kept or changed."""

import copy
import unittest

from helpers import ask, both, made
from rankroom.room import answers


class Answers(unittest.TestCase):
    def test_how_answers_stand(self):
        self.assertEqual(answers([1, 0, 2, 3]), [3, 0, 2, 9])
        self.assertEqual(answers([1, 6, 2, 3]), [1, -1])
        self.assertEqual(answers([16, 0, 0, 0]), [1, -3])
        self.assertEqual(
            answers([1, 0, 2, 3, 3, 1, 3, 2, 16, 2, 0, 1, 16, 2, 2, 2, 1, 1, 20, 20]),
            [3, 0, 2, 9, 3, 0, 2, 6, 3, 0, 2, 6, 1, -2, 1, -4])

    def test_how_lists_stand(self):
        self.assertEqual(answers([4, 0, 0]), [3, 0, 0, 1])
        self.assertEqual(answers([4, 0, 2, 1, 2, 4, 1, 0, 5, 2, 2]), [3, 0, 3, 3, 3, 0, 0, 1, 3, 0, 2, 1])
        self.assertEqual(answers([12, 0, 1, 2, 1, 3, 2, 0, 1, 1, 1, 1, 1]), [3, 0, 3, 1, 3, 0, 1, 1])
        self.assertEqual(answers([13, 0, 2, 0, 1, 13, 1, 1, 0]), [3, 0, 2, 1, 3, 0, 1, 1])
        self.assertEqual(answers([14, 0, 2, 0, 2, 2, 3, 3, 1, 0, 1, 1]), [3, 0, 3, 4, 3, 0, 1, 1])
        self.assertEqual(answers([15, 0, 2, 2, 1, 15, 1, 0]), [3, 0, 2, 1, 3, 0, 0, 1])

    def test_lists_of_refused_calls_are_passed_over(self):
        after = [1, 0, 1, 7]
        for refused in ([4, 0, 9] + [0] * 9, [4, 6, 2, 1, 1], [12, 9, 1, 1, 1, 1, 3, 1, 1, 1], [13, 6, 1, 0],
                        [13, 0, 8] + [1] * 8, [14, 0, 1, 0, 0, 0], [14, 0, 1, 0, 0, 9] + [1] * 9, [15, 7, 0],
                        [15, 0, 3990] + [1] * 3990):
            self.assertEqual(answers(refused + after), [1, -1, 3, 0, 1, 7], refused[:8])


class Order(unittest.TestCase):
    def test_forty_calls(self):
        calls = [made(1, at % 6, 1, at % 21) for at in range(40)]
        self.assertEqual(ask(*calls), [[0, 1, at % 21] for at in range(40)])

    def test_forty_calls_one_upon_another(self):
        calls = []
        expected = []
        for k in range(1, 11):
            calls += [made(1, 0, 2, k), made(2, 1, k + 1, 2), both(2, 0, 1), both(0, 2, 2)]
            expected += [[0, 2, k * k], [0, 2, k * (k + 1) // 2], [0, 2, k * (k - 1) // 2], [-2]]
        self.assertEqual(len(calls), 40)
        self.assertEqual(ask(*calls), expected)

    def test_a_call_sees_only_those_before_it(self):
        self.assertEqual(ask(both(1, 0, 0), made(1, 0, 2, 2), both(1, 0, 0)), [[-3], [0, 2, 4], [0, 2, 4]])

    def test_a_kind_made_anew_takes_the_place(self):
        answered = ask(made(1, 0, 2, 2), made(7, 0, 4), both(1, 0, 0), made(1, 1, 2, 2), both(2, 0, 1))
        self.assertEqual(answered, [[0, 2, 4], [0, 4, 5], [0, 4, 5], [0, 2, 4], [-2]])

    def test_all_numbers_for_kinds_at_once(self):
        calls = [made(1, t, 3, t + 1) for t in range(6)]
        shown = [both(t, t, t) for t in range(6)]
        expected = [[0, 3, (t + 1) ** 3] for t in range(6)]
        self.assertEqual(ask(*calls, *shown), expected + expected)

    def test_four_thousand_numbers(self):
        calls = [made(13, 0, [0] * 98) for at in range(39)] + [made(4, 0, [1, 1])]
        self.assertEqual(ask(*calls), [[-1]] * 39 + [[0, 2, 2]])


class NothingKept(unittest.TestCase):
    LINE = (
        made(1, 0, 3, 3) + made(4, 1, [1, 1, 1]) + made(12, 2, 2, 2, 3, 3, [0, 1, 1, 0]) + made(13, 3, [0, 1, 0])
        + made(14, 4, 2, 3, 0, [7, 7, 7]) + made(15, 5, [2, 1]) + both(5, 0, 1) + both(4, 4, 5) + both(6, 0, 0))

    def test_the_list_handed_in_stays_as_it_was(self):
        handed = list(self.LINE)
        before = copy.deepcopy(handed)
        answers(handed)
        self.assertEqual(handed, before)

    def test_the_list_is_never_written_to(self):
        class Guarded(list):
            def refuse(self, *given):
                raise AssertionError("the list was written to")

            append = extend = insert = pop = remove = clear = reverse = sort = refuse
            __setitem__ = __delitem__ = __iadd__ = __imul__ = refuse

        self.assertEqual(answers(Guarded(self.LINE)), answers(list(self.LINE)))

    def test_a_second_line_knows_nothing_of_the_first(self):
        first = answers(list(self.LINE))
        self.assertEqual(answers([16, 0, 0, 0, 16, 1, 4, 5]), [1, -3, 1, -3])
        self.assertEqual(answers(list(self.LINE)), first)

    def test_what_is_given_back_is_new(self):
        first = answers(list(self.LINE))
        kept = list(first)
        second = answers(list(self.LINE))
        second.append(7)
        second[0] = 9
        self.assertEqual(first, kept)
        self.assertEqual(answers(list(self.LINE)), kept)


if __name__ == "__main__":
    unittest.main()

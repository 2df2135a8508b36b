"""The document's example, and how answers come."""

import unittest

from rowsmerged.merging import NoSuchCall, answers
from tests.calls import (ask, clean, conflicts, drop, hunk, merge, merge_all, outcome, pull, shown, sides, step, swap,
                         tree, two)

LAID = [
    tree([1, 0, 5, 1, 2, 3, 4, 5]),
    step(0, [0, 0, 0, 1, 1, 2, 9, 9]), step(0, [0, 0, 4, 1, 4, 1, 6]),
    step(1, [0, 0, 4, 1, 5, 0]),
    step(2, [1, 0, 2, 7]), step(2, [0, 0, 1, 1, 7, 1, 8]),
]


# What the document tells of these rows, call by call, in its order.
ASKED = [
    (merge(0, 1), [0]),
    (conflicts(0, 1), [1, 1, 0]),
    (clean(0, 1), [1, 1, 1, 0, 1, 0, 6, 9, 9, 2, 3, 4, 5]),
    (conflicts(0, 2), [1, 0, 1]),
    (merge(1, 2), [1, 1, 0, 4, 1, 8, 3, 4]),
    (sides(1, 2), [1, 2, 1, 0, 2, 7, 0, 0, 1, 1, 7, 1, 8, 1, 0, 0, 4, 1, 5, 0]),
    (merge_all([1, 2]), [1, 1, 0, 4, 1, 8, 3, 4]),
    (merge_all([2, 1]), [1, 1, 0, 4, 1, 8, 3, 4]),
    (merge_all([0, 1]), [0, 1]),
    (pull(1, 2), [3]),
    (two([4, 0, 1], [0, 0, 2, 1, 3, 1, 7]), [1, 0, 1, 2, 1, 3, 1, 7, 4, 0, 1]),
]


class Example(unittest.TestCase):
    def test_laid(self):
        self.assertEqual([[1], [0], [1], [0], [0], [1]], ask(*LAID))

    def test_word_for_word(self):
        given = ask(*(LAID + [call for call, told in ASKED]))[6:]
        self.assertEqual([told for call, told in ASKED], given)

    def test_as_numbers(self):
        self.assertEqual([6, 0, 1], conflicts(0, 1))
        self.assertEqual([7, 0, 1], clean(0, 1))
        self.assertEqual([8, 2, 2, 1], merge_all([2, 1]))
        self.assertEqual([9, 1, 2], pull(1, 2))
        self.assertEqual([10, 3], drop(3))
        self.assertEqual([11, 3, 4, 0, 1, 7, 0, 0, 2, 1, 3, 1, 7], two([4, 0, 1], [0, 0, 2, 1, 3, 1, 7]))

    def test_rows_behind_the_example(self):
        given = ask(*(LAID + [call for call, told in ASKED] + [shown(1), shown(2), outcome(1), drop(1), shown(1)]))
        second = [1, 0, 2, 7, 0, 0, 1, 1, 7, 1, 8]
        self.assertEqual([[3, 0, 0, 4, 1, 5, 0] + second, [2] + second, [1, 0, 4, 1, 8, 3, 4], [0], [0]], given[-5:])

    def test_sides_either_way_round(self):
        second = [2, 1, 0, 2, 7, 0, 0, 1, 1, 7, 1, 8]
        first = [1, 0, 0, 4, 1, 5, 0]
        self.assertEqual([[1] + second + first, [1] + first + second], ask(*(LAID + [sides(1, 2), sides(2, 1)]))[6:])

    def test_shown_and_outcome(self):
        given = ask(*(LAID + [shown(0), outcome(0), outcome(1), outcome(2), outcome(3)]))[6:]
        self.assertEqual([[2, 0, 0, 0, 1, 1, 2, 9, 9, 0, 0, 4, 1, 4, 1, 6], [1, 0, 6, 9, 9, 2, 3, 6, 5],
                          [1, 0, 4, 1, 2, 3, 4], [1, 0, 5, 1, 8, 3, 4, 5], [1, 0, 5, 1, 2, 3, 4, 5]], given)


class Answers(unittest.TestCase):
    CALLS = [number for call in LAID + [merge(1, 2), sides(1, 2), step(2, swap(0, 1, 1)), shown(4), merge(0, 1)]
             + [call for call, told in ASKED] + [clean(1, 2), drop(0), drop(0), pull(0, 0), merge_all([2, 2])]
             for number in call]

    def test_number_by_number(self):
        self.assertEqual(
            [1, 1, 1, 0, 1, 1, 1, 0, 1, 0, 1, 1,
             8, 1, 1, 0, 4, 1, 8, 3, 4,
             20, 1, 2, 1, 0, 2, 7, 0, 0, 1, 1, 7, 1, 8, 1, 0, 0, 4, 1, 5, 0,
             1, -1, 1, -2, 1, 0,
             1, 0, 3, 1, 1, 0, 13, 1, 1, 1, 0, 1, 0, 6, 9, 9, 2, 3, 4, 5, 3, 1, 0, 1,
             8, 1, 1, 0, 4, 1, 8, 3, 4,
             20, 1, 2, 1, 0, 2, 7, 0, 0, 1, 1, 7, 1, 8, 1, 0, 0, 4, 1, 5, 0,
             8, 1, 1, 0, 4, 1, 8, 3, 4, 8, 1, 1, 0, 4, 1, 8, 3, 4, 2, 0, 1,
             1, 3, 11, 1, 0, 1, 2, 1, 3, 1, 7, 4, 0, 1,
             13, 2, 1, 2, 2, 0, 1, 1, 0, 4, 1, 2, 3, 4, 1, 0, 1, 0, 1, -3, 1, -2], answers(list(self.CALLS)))

    def test_a_refusal_is_counted_as_one_number(self):
        self.assertEqual([1, -8, 1, -8], answers([2, 0, 5, 0, 0]))

    def test_whole_numbers_in_a_list(self):
        given = answers(list(self.CALLS))
        self.assertIs(list, type(given))
        self.assertEqual({int}, {type(number) for number in given})

    def test_what_is_handed_in_stays(self):
        calls = list(self.CALLS)
        answers(calls)
        self.assertEqual(self.CALLS, calls)

    def test_a_second_use_is_as_the_first_one(self):
        first = answers(list(self.CALLS))
        self.assertEqual(first, answers(list(self.CALLS)))
        self.assertEqual([1, -8], answers([2, 0]))
        self.assertEqual(first, answers(list(self.CALLS)))

    def test_what_is_given_back_may_be_changed(self):
        first = answers(list(self.CALLS))
        kept = list(first)
        first.clear()
        self.assertEqual(kept, answers(list(self.CALLS)))

    def test_sixty_calls(self):
        full = tree([6] + [number for name in range(6) for number in [name, 12] + [name] * 12])
        row = [step(0, hunk(0, 0, [], [9] * 8))] * 8
        given = ask(*(row + [full] + row + [full] * 43))
        self.assertEqual([[-8]] * 8 + [[6]] + [[place] for place in range(8)] + [[6]] * 43, given)

    def test_another_call_is_not_answered(self):
        for call in (-1, 12):
            with self.assertRaises(NoSuchCall):
                answers([0, 1, 0, call, 0, 1])

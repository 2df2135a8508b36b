"""The document's example, as far as its calls are there, and how answers come."""

import unittest

from rowsmerged.merging import NoSuchCall, answers
from tests.calls import ask, hunk, merge, outcome, shown, sides, step, swap, tree

LAID = [
    tree([1, 0, 5, 1, 2, 3, 4, 5]),
    step(0, [0, 0, 0, 1, 1, 2, 9, 9]), step(0, [0, 0, 4, 1, 4, 1, 6]),
    step(1, [0, 0, 4, 1, 5, 0]),
    step(2, [1, 0, 2, 7]), step(2, [0, 0, 1, 1, 7, 1, 8]),
]


class Example(unittest.TestCase):
    def test_laid(self):
        self.assertEqual([[1], [0], [1], [0], [0], [1]], ask(*LAID))

    def test_merge(self):
        self.assertEqual([[0], [1, 1, 0, 4, 1, 8, 3, 4]], ask(*(LAID + [merge(0, 1), merge(1, 2)]))[6:])

    def test_sides(self):
        second = [2, 1, 0, 2, 7, 0, 0, 1, 1, 7, 1, 8]
        first = [1, 0, 0, 4, 1, 5, 0]
        self.assertEqual([[1] + second + first, [1] + first + second], ask(*(LAID + [sides(1, 2), sides(2, 1)]))[6:])

    def test_shown_and_outcome(self):
        given = ask(*(LAID + [shown(0), outcome(0), outcome(1), outcome(2), outcome(3)]))[6:]
        self.assertEqual([[2, 0, 0, 0, 1, 1, 2, 9, 9, 0, 0, 4, 1, 4, 1, 6], [1, 0, 6, 9, 9, 2, 3, 6, 5],
                          [1, 0, 4, 1, 2, 3, 4], [1, 0, 5, 1, 8, 3, 4, 5], [1, 0, 5, 1, 2, 3, 4, 5]], given)


class Answers(unittest.TestCase):
    CALLS = [number for call in LAID + [merge(1, 2), sides(1, 2), step(2, swap(0, 1, 1)), shown(4), merge(0, 1)]
             for number in call]

    def test_number_by_number(self):
        self.assertEqual(
            [1, 1, 1, 0, 1, 1, 1, 0, 1, 0, 1, 1,
             8, 1, 1, 0, 4, 1, 8, 3, 4,
             20, 1, 2, 1, 0, 2, 7, 0, 0, 1, 1, 7, 1, 8, 1, 0, 0, 4, 1, 5, 0,
             1, -1, 1, -2, 1, 0], answers(list(self.CALLS)))

    def test_a_refusal_is_counted_as_one_number(self):
        self.assertEqual([1, -8, 1, -8], answers([2, 0, 5, 0, 0]))

    def test_whole_numbers_in_a_list(self):
        given = answers(list(self.CALLS))
        self.assertIs(list, type(given))
        self.assertEqual({int}, {type(number) for number in given})

    def test_what_is_handed_in_stays(self):
        calls = list(self.CALLS)
        answers(calls)
        self.assertEqual(self.CALLS, calls)

    def test_a_second_use_is_as_the_first_one(self):
        first = answers(list(self.CALLS))
        self.assertEqual(first, answers(list(self.CALLS)))
        self.assertEqual([1, -8], answers([2, 0]))
        self.assertEqual(first, answers(list(self.CALLS)))

    def test_what_is_given_back_may_be_changed(self):
        first = answers(list(self.CALLS))
        kept = list(first)
        first.clear()
        self.assertEqual(kept, answers(list(self.CALLS)))

    def test_sixty_calls(self):
        full = tree([6] + [number for name in range(6) for number in [name, 12] + [name] * 12])
        row = [step(0, hunk(0, 0, [], [9] * 8))] * 8
        given = ask(*(row + [full] + row + [full] * 43))
        self.assertEqual([[-8]] * 8 + [[6]] + [[place] for place in range(8)] + [[6]] * 43, given)

    def test_another_call_is_not_answered(self):
        for call in (-1, 12):
            with self.assertRaises(NoSuchCall):
                answers([0, 1, 0, call, 0, 1])

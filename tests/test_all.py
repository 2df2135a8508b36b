"""Promises 2 and 3, and what is said of many rows: all."""

import itertools
import unittest

from tests.calls import (added, after_laid, ask, files, hunk, last, merge_all, moved, outcome, pull, removed, row_of,
                         shown, step, swap, tree)

TREE = {0: [1, 2, 3, 4, 5], 1: [], 2: [6, 7]}

TOGETHER = [
    [hunk(0, 0, [1], [8, 8]), moved(2, 5), hunk(5, 0, [], [9])],
    [swap(0, 1, 3), removed(1), hunk(0, 2, [1], [])],
    [added(7), hunk(7, 0, [], [4]), hunk(0, 5, [], [3, 2])],
    [hunk(2, 2, [], [6]), swap(2, 7, 1)],
]
COMES = {0: [8, 8, 2, 4, 5, 1, 2], 5: [9, 6, 1, 6], 7: [4]}


class All(unittest.TestCase):
    def test_no_rows(self):
        self.assertEqual([[1] + files(TREE)], after_laid(TREE, TOGETHER, merge_all([])))
        self.assertEqual([[0], [1, 0]], ask(tree([0]), merge_all([])))

    def test_one_row_is_as_it_is(self):
        given = after_laid(TREE, TOGETHER, *[call for row in range(4) for call in (merge_all([row]), outcome(row))])
        for row in range(4):
            self.assertEqual([1] + given[2 * row + 1], given[2 * row])

    def test_four_rows_in_all_orders(self):
        orders = list(itertools.permutations(range(4)))
        self.assertEqual([[1] + files(COMES)] * 24, after_laid(TREE, TOGETHER, *[merge_all(rows) for rows in orders]))

    def test_fewer_rows_in_all_orders(self):
        for count in (2, 3):
            for chosen in itertools.combinations(range(4), count):
                orders = list(itertools.permutations(chosen))
                given = after_laid(TREE, TOGETHER, *[merge_all(rows) for rows in orders])
                self.assertEqual(1, given[0][0])
                self.assertEqual([given[0]] * len(orders), given, chosen)
                self.assertNotEqual([1] + files(COMES), given[0])

    def test_empty_rows(self):
        given = after_laid(TREE, [[], [added(9)]], merge_all([0, 2, 3]), merge_all([0, 1, 2, 3]), merge_all([1, 0]))
        self.assertEqual([[1] + files(TREE)] + [[1] + files({**TREE, 9: []})] * 2, given)

    def test_each_is_merged_with_all_ahead_of_it(self):
        rows = [[added(9)], [swap(0, 1, 2)], [removed(1)], [hunk(2, 0, [6], []), added(9)]]
        given = after_laid(TREE, rows, merge_all([0, 1, 2, 3]), merge_all([0, 3, 1, 2]), merge_all([3, 0, 1, 2]),
                           merge_all([1, 3, 2, 0]), merge_all([1, 2, 0, 3]), merge_all([2, 3, 0]), merge_all([3, 0]))
        self.assertEqual([[0, 3], [0, 1], [0, 1], [0, 3], [0, 3], [0, 2], [0, 1]], given)

    def test_the_first_one_that_can_not_be_merged(self):
        rows = [[added(9)], [added(9)], [added(9), swap(0, 1, 2)], [swap(0, 1, 2)]]
        given = after_laid(TREE, rows, merge_all([3, 0, 1, 2]), merge_all([0, 2, 1]), merge_all([3, 2, 1, 0]),
                           merge_all([3, 0]))
        self.assertEqual([[0, 2], [0, 1], [0, 1], [1] + files({0: [2, 1, 3, 4, 5], 1: [], 2: [6, 7], 9: []})], given)

    def test_places_that_change_more_than_once(self):
        rows = [[hunk(0, place, [], [60 + place] * (place + 1))] for place in range(4)]
        comes = [60, 1, 61, 61, 2, 62, 62, 62, 3, 63, 63, 63, 63, 4, 5]
        for order in ([0, 1, 2, 3], [3, 2, 1, 0], [1, 3, 0, 2]):
            self.assertEqual([[1] + files({**TREE, 0: comes})], after_laid(TREE, rows, merge_all(order)))

    def test_rows_that_pull_made_longer(self):
        given = after_laid(TREE, TOGETHER, pull(0, 1), pull(2, 3), merge_all([0, 2]), merge_all([2, 0]),
                           merge_all([0, 3, 1]), merge_all([1, 2, 0]), merge_all([0]), outcome(0))
        self.assertEqual([[6], [5], [1] + files(COMES), [1] + files(COMES), [0, 2], [0, 2]], given[:6])
        self.assertEqual([1] + given[7], given[6])

    def test_nothing_is_changed(self):
        rows = TOGETHER[:3] + [[added(7)]]
        asked = [merge_all([0, 1, 2]), merge_all([3, 2, 1, 0])] + [shown(row) for row in range(4)] + [outcome(2)]
        given = after_laid(TREE, rows, *(asked + asked))
        self.assertEqual(given[:7], given[7:])
        self.assertEqual([row_of(row) for row in rows], given[2:6])
        self.assertEqual([0, 1], given[1])


class Order(unittest.TestCase):
    """Refusals are looked at in the order told."""

    TWICE = ([0, 0], [3, 3], [0, 1, 0], [1, 2, 3, 3], [0, 1, 2, 3, 0], [2] * 10, [0, 1, 2, 3, 0, 1, 2, 3, 0, 1])
    NO_ROWS = ([-1], [4], [0, 4], [-1, 0], [0, 1, 2, 3, 4], [10 ** 18], [0, -10 ** 18], [5, 5], [0, 0, 4],
               list(range(10)))

    def test_no_tree_first(self):
        for rows in self.TWICE + self.NO_ROWS + ([], [0], [0, 1, 2, 3]):
            self.assertEqual([[-8]], ask(merge_all(rows)))

    def test_then_no_row(self):
        for rows in self.NO_ROWS:
            self.assertEqual([-2], last(tree(files(TREE)), merge_all(rows)))

    def test_told_twice(self):
        for rows in self.TWICE:
            self.assertEqual([-2], last(tree(files(TREE)), merge_all(rows)))

    def test_refused_ahead_of_what_can_not_be_merged(self):
        rows = [[added(9)], [added(9)]]
        given = after_laid(TREE, rows, merge_all([0, 1, 0]), merge_all([0, 1, 4]), merge_all([0, 1]))
        self.assertEqual([[-2], [-2], [0, 1]], given)

    def test_a_refusal_changes_nothing(self):
        given = ask(tree(files(TREE)), step(0, added(9)), merge_all([0, 0]), shown(0), merge_all([0]))
        self.assertEqual([[-2], [1] + added(9), [1] + files({**TREE, 9: []})], given[2:])

"""Promise 2: two, which needs no tree."""

import unittest

from tests.calls import added, after_laid, ask, files, hunk, moved, outcome, removed, row_of, shown, swap, tree, two
from tests.test_merge import APART, MERGED
from tests.test_step import NO_STEPS, STEPS

# Steps that fit no common tree, or none at all. Each: two steps, the second one behind the first, the first behind it.
FIT_NO_TREE = {
    "hunks of unlike old tokens, far apart": (
        hunk(0, 0, [1, 2], [3]), hunk(0, 900, [4], []), hunk(0, 899, [4], []), hunk(0, 0, [1, 2], [3])),
    "a hunk and a swap in a file that is added": (
        hunk(3, 7, [1], [2]), swap(3, 1, 5), swap(3, 1, 5), hunk(3, 7, [5], [2])),
    "a file removed twice over": (removed(3), removed(4), removed(4), removed(3)),
    "all names taken": (added(0), moved(1, 2), moved(1, 2), added(0)),
    "a move of a file in which a hunk is far behind": (
        moved(0, 1), hunk(0, 1000, [7] * 8, []), hunk(1, 1000, [7] * 8, []), moved(0, 1)),
    "a swap and a move": (swap(9, 0, 99), moved(9, 0), moved(9, 0), swap(0, 0, 99)),
}
BEYOND = {
    "the first one": (
        hunk(0, 1000, [1], [2]), hunk(0, 0, [], [5] * 8), hunk(0, 0, [], [5] * 8), hunk(0, 1008, [1], [2])),
    "the second one": (
        hunk(0, 990, [5], [6] * 8), hunk(0, 1000, [], [1]), hunk(0, 1007, [], [1]), hunk(0, 990, [5], [6] * 8)),
    "by one alone": (hunk(0, 998, [], [5]), hunk(0, 1000, [1], []), hunk(0, 1001, [1], []), hunk(0, 998, [], [5])),
    "just not": (hunk(0, 998, [5], [6]), hunk(0, 1000, [1], []), hunk(0, 1000, [1], []), hunk(0, 998, [5], [6])),
    "lower": (hunk(0, 1000, [1], [2]), hunk(0, 0, [5] * 8, []), hunk(0, 0, [5] * 8, []), hunk(0, 992, [1], [2])),
}
ELSE_NOT = {
    "a hunk in a file that is added": (added(0), hunk(0, 0, [], [1])),
    "a swap in a file that is added": (added(0), swap(0, 1, 2)),
    "added and removed": (added(0), removed(0)),
    "a file moved to where another hunk is": (moved(0, 1), hunk(1, 0, [], [1])),
    "a file moved to where another swap is": (moved(0, 1), swap(1, 1, 2)),
    "a file moved on": (moved(0, 1), moved(1, 2)),
    "a file moved back": (moved(0, 1), moved(1, 0)),
    "a move and its new name removed": (moved(0, 1), removed(1)),
    "a move and its old name added": (moved(0, 1), added(0)),
    "a hunk and one just behind its old tokens": (hunk(0, 10, [1, 2], [1] * 5), hunk(0, 12, [], [3])),
    "hunks beside one another at 1000": (hunk(0, 1000, [1], []), hunk(0, 999, [2], [])),
    "swaps with a token in common": (swap(0, 1, 2), swap(0, 2, 3)),
}


class Two(unittest.TestCase):
    def assert_two(self, one, other, other_behind, one_behind):
        self.assertEqual([[1] + other_behind + one_behind, [1] + one_behind + other_behind],
                         ask(two(one, other), two(other, one)))

    def test_steps_that_fit_one_tree(self):
        for why, (told, first, second, second_behind, first_behind, comes) in MERGED.items():
            if len(first) == len(second) == 1:
                with self.subTest(why):
                    self.assert_two(first[0], second[0], second_behind[0], first_behind[0])

    def test_steps_that_fit_one_tree_and_can_not_be_merged(self):
        for why, (told, first, second) in APART.items():
            if len(first) == len(second) == 1:
                with self.subTest(why):
                    self.assertEqual([[0], [0]], ask(two(first[0], second[0]), two(second[0], first[0])))

    def test_steps_that_fit_no_common_tree(self):
        for why, (one, other, other_behind, one_behind) in FIT_NO_TREE.items():
            with self.subTest(why):
                self.assert_two(one, other, other_behind, one_behind)

    def test_places_beyond_1000(self):
        for why, (one, other, other_behind, one_behind) in BEYOND.items():
            with self.subTest(why):
                self.assert_two(one, other, other_behind, one_behind)

    def test_else_not(self):
        for why, (one, other) in ELSE_NOT.items():
            with self.subTest(why):
                self.assertEqual([[0], [0]], ask(two(one, other), two(other, one)))

    def test_each_step_and_one_of_another_name(self):
        for why, (items, comes) in STEPS.items():
            with self.subTest(why):
                self.assert_two(items, removed(7), removed(7), items)

    def test_no_step_and_itself(self):
        for why, (items, comes) in STEPS.items():
            with self.subTest(why):
                self.assertEqual([[0]], ask(two(items, items)))

    def test_it_leaves_tree_and_rows_as_they_are(self):
        told = {0: [1, 2], 4: []}
        rows = [[hunk(0, 0, [1], [])], [], [removed(4)]]
        calls = [two(moved(0, 1), swap(0, 3, 4)), two([], []), two(removed(4), removed(4)), shown(0), shown(1),
                 shown(2), outcome(0)]
        self.assertEqual(
            [[1] + swap(1, 3, 4) + moved(0, 1), [-1], [0]] + [row_of(row) for row in rows] + [files({0: [2], 4: []})],
            after_laid(told, rows, *calls))

    def test_there_is_no_tree_behind_it(self):
        self.assertEqual([[1] + added(2) + added(1), [-8], [0], [0]],
                         ask(two(added(1), added(2)), shown(0), tree([0]), shown(0)))


class Refused(unittest.TestCase):
    def test_one_that_is_no_step(self):
        for why, items in NO_STEPS.items():
            with self.subTest(why):
                self.assertEqual([[-1]] * 3, ask(two(items, added(7)), two(added(7), items), two(items, items)))

    def test_two_that_are_no_steps(self):
        self.assertEqual([[-1], [-1]], ask(two([], [9]), two(swap(0, 1, 1), moved(3, 3))))

    def test_a_number_more_or_less(self):
        for items in (added(7), swap(3, 4, 5), moved(4, 5), hunk(1, 2, [3], [4])):
            for wrong in (items[:-1], items + [0]):
                self.assertEqual([[-1], [-1]], ask(two(wrong, removed(9)), two(removed(9), wrong)))

    def test_with_a_tree_it_is_refused_alike(self):
        self.assertEqual([[1], [-1], [-1]], ask(tree([1, 0, 0]), two(added(10), added(1)), two(added(1), [2])))

"""Promises 3 and 5: conflicts and clean."""

import unittest

from tests.calls import (added, after_laid, ask, clean, conflicts, drop, files, hunk, laid, last, merge, moved, outcome,
                         pairs_of, pull, removed, row_of, shown, swap, tree)

TREE = {0: [1, 2, 3, 4, 5], 1: [], 2: [6, 7]}

# Each: two rows, the pairs of first conflicts, the steps that conflict of either row, what's left of either, its tree.
CASES = {
    "both empty": ([], [], [], [], [], [], [], TREE),
    "one empty": ([], [added(9), hunk(9, 0, [], [1])], [], [], [], [], [added(9), hunk(9, 0, [], [1])],
                  {**TREE, 9: [1]}),
    "nothing taken out": (
        [hunk(0, 0, [1], [8]), removed(1)], [swap(0, 1, 2), hunk(0, 4, [5], [])], [], [], [],
        [hunk(0, 0, [1], [8]), removed(1)], [swap(0, 1, 2), hunk(0, 4, [5], [])], {0: [8, 1, 3, 4], 2: [6, 7]}),
    "one step each, all taken out": ([added(9)], [added(9)], [(0, 0)], [0], [0], [], [], TREE),
    "steps beside it stay": (
        [swap(2, 6, 9), added(9), hunk(0, 1, [2], [])], [removed(1), hunk(0, 3, [], [8]), added(9)],
        [(1, 2)], [1], [2], [swap(2, 6, 9), hunk(0, 1, [2], [])], [removed(1), hunk(0, 3, [], [8])],
        {0: [1, 3, 8, 4, 5], 2: [9, 7]}),
    "a step that needs another one ahead of it in the first row": (
        [added(5), hunk(5, 0, [], [1])], [added(5)], [(0, 0)], [0, 1], [0], [], [], TREE),
    "a step that needs another one ahead of it in the second row": (
        [added(5)], [removed(1), added(5), hunk(5, 0, [], [1])], [(0, 1)], [0], [1, 2], [], [removed(1)],
        {0: [1, 2, 3, 4, 5], 2: [6, 7]}),
    "steps that need others in both rows": (
        [added(5), swap(5, 1, 2), hunk(5, 0, [], [1])], [moved(2, 5), moved(5, 6), hunk(6, 0, [6], [])],
        [(0, 0)], [0, 1, 2], [0, 1], [], [hunk(2, 0, [6], [])], {**TREE, 2: [7]}),
    "what is needed doesn't conflict itself": (
        [added(5), hunk(5, 0, [], [3])], [added(6), moved(6, 5)], [(0, 1)], [0, 1], [1], [], [added(6)],
        {**TREE, 6: []}),
    "a conflict of two steps that both need others": (
        [added(5), moved(5, 6)], [added(7), moved(7, 6)], [(1, 1)], [1], [1], [added(5)], [added(7)],
        {**TREE, 5: [], 7: []}),
    "a step needed because of a third one between them": (
        [hunk(0, 0, [1], [8]), hunk(0, 1, [2], [8]), hunk(0, 2, [3], [9])], [hunk(0, 0, [1], [7])],
        [(0, 0)], [0, 1, 2], [0], [], [], TREE),
    "the same without the third one": (
        [hunk(0, 0, [1], [8]), hunk(0, 2, [3], [9])], [hunk(0, 0, [1], [7])],
        [(0, 0)], [0], [0], [hunk(0, 2, [3], [9])], [], {**TREE, 0: [1, 2, 9, 4, 5]}),
    "a third one between them that is as it is alone only behind the first one": (
        [swap(0, 1, 9), hunk(0, 0, [9], [8, 8]), hunk(0, 2, [2], [9])], [hunk(0, 0, [1], [7])],
        [(1, 0)], [1, 2], [0], [swap(0, 1, 9)], [], {**TREE, 0: [9, 2, 3, 4, 5]}),
    "a file moved, another one added in its place and filled": (
        [moved(0, 5), added(0), hunk(0, 0, [], [4])], [moved(0, 6)], [(0, 0)], [0, 1, 2], [0], [], [], TREE),
    "a file moved, another one moved to its place": (
        [moved(0, 5), moved(2, 0), hunk(0, 0, [6], [])], [moved(0, 6)], [(0, 0)], [0, 1], [0],
        [hunk(2, 0, [6], [])], [], {**TREE, 2: [7]}),
    "a step needed though the one between them isn't": (
        [added(5), moved(5, 6), hunk(6, 0, [], [1])], [added(6)], [(1, 0)], [1], [0],
        [added(5), hunk(5, 0, [], [1])], [], {**TREE, 5: [1]}),
    "a step needed though the one between them isn't, and it conflicts": (
        [added(5), moved(5, 6), hunk(6, 0, [], [1])], [added(5)], [(0, 0)], [0, 1, 2], [0], [], [], TREE),
    "several first ones, by the first number, then by the second one": (
        [hunk(0, 0, [1, 2, 3, 4, 5], []), added(9), swap(2, 6, 7)],
        [swap(2, 7, 8), hunk(0, 0, [1], [8]), hunk(0, 4, [5], [9]), added(9)],
        [(0, 1), (0, 2), (1, 3), (2, 0)], [0, 1, 2], [0, 1, 2, 3], [], [], TREE),
    "one step of the second row with several of the first one": (
        [hunk(0, 4, [5], [9]), hunk(0, 0, [1], [8])], [hunk(0, 0, [1, 2, 3, 4, 5], [])],
        [(0, 0), (1, 0)], [0, 1], [0], [], [], TREE),
    "a first one though another one conflicts with what is needed": (
        [hunk(0, 0, [1, 2], [8, 8]), hunk(0, 2, [3, 4], [9])], [hunk(0, 0, [1], [7]), hunk(0, 4, [5], [7])],
        [(0, 0), (1, 1)], [0, 1], [0, 1], [], [], TREE),
    "not a first one because of both needed ones": (
        [added(8), hunk(8, 0, [], [1])], [added(8), swap(8, 1, 2)], [(0, 0)], [0, 1], [0, 1], [], [], TREE),
    "a step taken out ahead of a hunk behind it": (
        [hunk(0, 0, [1], [8, 8, 8]), hunk(0, 4, [3], [9])], [hunk(0, 0, [1], [7])],
        [(0, 0)], [0], [0], [hunk(0, 2, [3], [9])], [], {**TREE, 0: [1, 2, 9, 4, 5]}),
    "a step taken out from the middle changes places behind it": (
        [hunk(0, 4, [5], [6, 6]), hunk(0, 0, [1], [8, 8, 8]), swap(2, 6, 7), hunk(0, 4, [3], [])],
        [hunk(0, 0, [], [7])], [(1, 0)], [1], [0],
        [hunk(0, 4, [5], [6, 6]), swap(2, 6, 7), hunk(0, 2, [3], [])], [], {0: [1, 2, 4, 6, 6], 1: [], 2: [7, 6]}),
    "a step taken out from the middle of the second row": (
        [removed(1), hunk(0, 2, [], [7])], [hunk(0, 0, [1], []), hunk(0, 1, [3], [8, 8, 8]), hunk(0, 5, [5], [])],
        [(1, 1)], [1], [1], [removed(1)], [hunk(0, 0, [1], []), hunk(0, 3, [5], [])], {0: [2, 3, 4], 2: [6, 7]}),
    "a swap taken out changes tokens behind it": (
        [swap(0, 1, 9), hunk(0, 0, [9], [9, 9])], [swap(0, 1, 2)], [(0, 0)], [0], [0],
        [hunk(0, 0, [1], [1, 1])], [], {**TREE, 0: [1, 1, 2, 3, 4, 5]}),
    "a move taken out changes names behind it": (
        [moved(0, 5), hunk(5, 0, [1], []), swap(5, 2, 3)], [moved(0, 6), hunk(6, 4, [5], [])], [(0, 0)], [0], [0],
        [hunk(0, 0, [1], []), swap(0, 2, 3)], [hunk(0, 4, [5], [])], {**TREE, 0: [3, 2, 4]}),
    "several taken out of each row, what's left commuted several times": (
        [hunk(0, 0, [1], [8, 8, 8]), hunk(0, 4, [3], [9, 9]), hunk(0, 7, [5], [7]), added(9), swap(0, 2, 6)],
        [hunk(0, 0, [1], []), hunk(0, 1, [3], []), hunk(0, 2, [], [4]), added(9), removed(1)],
        [(0, 0), (1, 1), (2, 2), (3, 3)], [0, 1, 2, 3], [0, 1, 2, 3], [swap(0, 2, 6)], [removed(1)],
        {0: [1, 6, 3, 4, 5], 2: [6, 7]}),
    "a step past two that are taken out": (
        [hunk(0, 0, [1], [8, 8, 8]), moved(0, 9), hunk(9, 4, [3], [7])], [hunk(0, 0, [1], []), moved(0, 8)],
        [(0, 0), (1, 1)], [0, 1], [0, 1], [hunk(0, 2, [3], [7])], [], {**TREE, 0: [1, 2, 7, 4, 5]}),
    "a step and it turned round": (
        [hunk(0, 1, [2], [9]), hunk(0, 1, [9], [2])], [hunk(0, 1, [2], [8])], [(0, 0)], [0, 1], [0], [], [], TREE),
    "eight steps each, the same ones": (
        [swap(0, 1, 2)] * 8, [swap(0, 1, 2)] * 8, [(0, 0)], list(range(8)), list(range(8)), [], [], TREE),
    "eight steps each, one from the other's end": (
        [hunk(0, 0, [1], []), hunk(0, 1, [3], []), hunk(0, 2, [5], []), removed(1), added(9), swap(2, 6, 7), added(8),
         added(7)],
        [added(7), added(8), swap(2, 7, 8), added(9), swap(1, 1, 2), hunk(0, 4, [5], [6]), hunk(0, 2, [3], [6]),
         hunk(0, 0, [1], [6])],
        [(place, 7 - place) for place in range(8)], list(range(8)), list(range(8)), [], [], TREE),
    "eight steps each, nothing taken out": (
        [hunk(0, 0, [], [place]) for place in range(8)], [hunk(0, 5, [], [place]) for place in range(8)], [], [], [],
        [hunk(0, 0, [], [place]) for place in range(8)], [hunk(0, 5, [], [place]) for place in range(8)],
        {**TREE, 0: [7, 6, 5, 4, 3, 2, 1, 0, 1, 2, 3, 4, 5, 7, 6, 5, 4, 3, 2, 1, 0]}),
}


class Conflicts(unittest.TestCase):
    def test_first_ones(self):
        for why, (first, second, pairs, taken, others_taken, left, other_left, comes) in CASES.items():
            with self.subTest(why):
                turned = sorted([(two, one) for one, two in pairs])
                given = after_laid(TREE, [first, second], conflicts(0, 1), conflicts(1, 0))
                self.assertEqual([pairs_of(pairs), pairs_of(turned)], given)

    def test_none_if_they_can_be_merged(self):
        for why, (first, second, pairs, taken, others_taken, left, other_left, comes) in CASES.items():
            with self.subTest(why):
                given = after_laid(TREE, [first, second], merge(0, 1))
                self.assertEqual([0] if pairs else [1] + files(comes), given[0])

    def test_any_two_rows(self):
        first = [added(9), hunk(0, 0, [1], [])]
        second = [removed(1), added(9)]
        for row in range(4):
            for other in range(4):
                if row != other:
                    rows = [first if place == row else second if place == other else [] for place in range(4)]
                    given = after_laid(TREE, rows, conflicts(row, other), conflicts(other, row))
                    self.assertEqual([[1, 0, 1], [1, 1, 0]], given)


class Clean(unittest.TestCase):
    def test_what_is_taken_out_and_what_comes_of_the_others(self):
        for why, (first, second, pairs, taken, others_taken, left, other_left, comes) in CASES.items():
            with self.subTest(why):
                steps = [len(taken)] + taken
                others = [len(others_taken)] + others_taken
                given = after_laid(TREE, [first, second], clean(0, 1), clean(1, 0))
                self.assertEqual([steps + others + files(comes), others + steps + files(comes)], given)

    def test_it_is_what_comes_of_the_rows_that_are_left_when_merged(self):
        for why, (first, second, pairs, taken, others_taken, left, other_left, comes) in CASES.items():
            with self.subTest(why):
                given = after_laid(TREE, [left, other_left], merge(0, 1), conflicts(0, 1), clean(0, 1))
                self.assertEqual([[1] + files(comes), [0], [0, 0] + files(comes)], given)

    def test_no_files_at_all_are_left(self):
        given = after_laid({3: []}, [[removed(3), added(4)], [added(4)]], clean(0, 1))
        self.assertEqual([[1, 1, 1, 0, 0]], given)


class NothingChanges(unittest.TestCase):
    def test_rows_and_tree_stay(self):
        for why, (first, second, pairs, taken, others_taken, left, other_left, comes) in CASES.items():
            with self.subTest(why):
                asked = [conflicts(0, 3), clean(0, 3), shown(0), shown(1), shown(3), outcome(0), outcome(1), outcome(3)]
                given = after_laid(TREE, [first, [], [], second], *(asked + asked))
                self.assertEqual(given[:8], given[8:])
                self.assertEqual([row_of(first), [0], row_of(second)], given[2:5])
                self.assertEqual(files(TREE), given[6])


class Order(unittest.TestCase):
    """Refusals are looked at in the order told."""

    # Row 0 has 9 steps, row 1 has 1, row 2 is empty, row 3 has 8.
    LONG = laid(TREE, [swap(0, 1, 9)] * 8, [swap(2, 6, 9)], [], [swap(1, 1, 9)] * 8) + [pull(0, 1)]

    def test_no_tree_first(self):
        for row, other in ((0, 1), (0, 0), (4, 0), (0, -1), (9, 9)):
            self.assertEqual([[-8], [-8]], ask(conflicts(row, other), clean(row, other)))

    def test_then_no_row(self):
        for wrong in (-1, 4, 10 ** 18, -10 ** 18):
            for row, other in ((wrong, 0), (0, wrong), (wrong, wrong), (wrong, 5)):
                given = ask(*(self.LONG + [conflicts(row, other), clean(row, other)]))
                self.assertEqual([[-2], [-2]], given[-2:])

    def test_then_the_same_row(self):
        for row in range(4):
            given = ask(*(self.LONG + [conflicts(row, row), clean(row, row)]))
            self.assertEqual([[-3], [-3]], given[-2:])

    def test_then_a_row_of_more_than_eight_steps(self):
        asked = [call(row, other) for call in (conflicts, clean) for row, other in ((0, 2), (2, 0), (0, 3), (3, 0))]
        given = ask(*(self.LONG + asked + [shown(0), shown(3)]))
        self.assertEqual([[9]] + [[-6]] * 8, given[-11:-2])
        self.assertEqual([row_of([swap(0, 1, 9)] * 8 + [swap(2, 6, 9)]), row_of([swap(1, 1, 9)] * 8)], given[-2:])

    def test_both_rows_of_more_than_eight_steps(self):
        given = ask(*(self.LONG + [pull(3, 1), conflicts(0, 3), clean(3, 0)]))
        self.assertEqual([[9], [-6], [-6]], given[-3:])

    def test_eight_steps_that_pull_made_are_not_too_many(self):
        rows = [[swap(0, 1, 9)] * 7, [added(9)], [added(9)]]
        given = after_laid(TREE, rows, pull(0, 1), conflicts(0, 2), clean(2, 0), conflicts(0, 1))
        comes = files({**TREE, 0: [9, 2, 3, 4, 5]})
        self.assertEqual([[8], [1, 7, 0], [1, 0, 1, 7] + comes, [1, 7, 0]], given)

    def test_dropped_it_is_not_too_long(self):
        given = ask(*(self.LONG + [drop(0), conflicts(0, 2), clean(2, 0)]))
        self.assertEqual([[0], [0], [0, 0] + files(TREE)], given[-3:])

    def test_a_refusal_is_one_number(self):
        self.assertEqual([-3], last(tree(files(TREE)), conflicts(2, 2)))
        self.assertEqual([-3], last(tree(files(TREE)), clean(2, 2)))

"""Promises 3 and 6, and when steps may be commuted: merge and sides."""

import unittest

from tests.calls import (added, after_laid, ask, files, hunk, last, merge, moved, outcome, removed, row_of, shown,
                         sides, swap, tree)

TREE = {0: [1, 2, 3, 4, 5], 1: [], 2: [6, 7]}

# Each: the tree, two rows, the second one behind the first one, the first one behind the second one, what comes.
MERGED = {
    "both empty": (TREE, [], [], [], [], TREE),
    "one empty": (TREE, [added(9)], [], [], [added(9)], {**TREE, 9: []}),
    "no name in common": (
        TREE, [swap(0, 1, 5)], [hunk(2, 0, [6], [])], [hunk(2, 0, [6], [])], [swap(0, 1, 5)],
        {0: [5, 2, 3, 4, 1], 1: [], 2: [7]}),
    "added and removed": (
        TREE, [added(9)], [removed(1)], [removed(1)], [added(9)], {0: [1, 2, 3, 4, 5], 2: [6, 7], 9: []}),
    "two moves": (
        TREE, [moved(0, 8)], [moved(2, 9)], [moved(2, 9)], [moved(0, 8)], {1: [], 8: [1, 2, 3, 4, 5], 9: [6, 7]}),
    "two hunks with one token between": (
        TREE, [hunk(0, 0, [1], [8, 9])], [hunk(0, 2, [3], [])], [hunk(0, 3, [3], [])], [hunk(0, 0, [1], [8, 9])],
        {**TREE, 0: [8, 9, 2, 4, 5]}),
    "two hunks far apart": (
        TREE, [hunk(0, 0, [1, 2], [])], [hunk(0, 5, [], [9])], [hunk(0, 3, [], [9])], [hunk(0, 0, [1, 2], [])],
        {**TREE, 0: [3, 4, 5, 9]}),
    "two hunks without old tokens": (
        TREE, [hunk(0, 0, [], [8])], [hunk(0, 1, [], [9])], [hunk(0, 2, [], [9])], [hunk(0, 0, [], [8])],
        {**TREE, 0: [8, 1, 9, 2, 3, 4, 5]}),
    "two hunks without new tokens": (
        TREE, [hunk(0, 1, [2], [])], [hunk(0, 3, [4, 5], [])], [hunk(0, 2, [4, 5], [])], [hunk(0, 1, [2], [])],
        {**TREE, 0: [1, 3]}),
    "a hunk and a swap": (
        TREE, [hunk(0, 1, [2, 3], [3, 9, 1])], [swap(0, 3, 9)],
        [swap(0, 3, 9)], [hunk(0, 1, [2, 9], [9, 3, 1])], {**TREE, 0: [1, 9, 3, 1, 4, 5]}),
    "two swaps with no token in common": (
        TREE, [swap(0, 1, 3)], [swap(0, 9, 5)], [swap(0, 9, 5)], [swap(0, 1, 3)], {**TREE, 0: [3, 2, 1, 4, 9]}),
    "a move and a hunk": (
        TREE, [moved(0, 7)], [hunk(0, 5, [], [9])], [hunk(7, 5, [], [9])], [moved(0, 7)],
        {1: [], 2: [6, 7], 7: [1, 2, 3, 4, 5, 9]}),
    "a move and a swap": (
        TREE, [moved(2, 3)], [swap(2, 7, 0)], [swap(3, 7, 0)], [moved(2, 3)], {0: [1, 2, 3, 4, 5], 1: [], 3: [6, 0]}),
    "a move and a hunk in an empty file": (
        TREE, [moved(1, 3)], [hunk(1, 0, [], [4])], [hunk(3, 0, [], [4])], [moved(1, 3)],
        {0: [1, 2, 3, 4, 5], 2: [6, 7], 3: [4]}),
    "rows: hunks past hunks": (
        TREE, [hunk(0, 0, [1], []), hunk(0, 3, [5], [8, 8])], [hunk(0, 2, [3], [9, 9, 9]), hunk(0, 3, [9], [])],
        [hunk(0, 1, [3], [9, 9, 9]), hunk(0, 2, [9], [])], [hunk(0, 0, [1], []), hunk(0, 4, [5], [8, 8])],
        {**TREE, 0: [2, 9, 9, 4, 8, 8]}),
    "rows: a move past what is told of the old name": (
        TREE, [moved(0, 5), hunk(5, 0, [1], [])], [swap(0, 1, 3), hunk(0, 3, [4], [6, 6]), moved(2, 9)],
        [swap(5, 1, 3), hunk(5, 2, [4], [6, 6]), moved(2, 9)], [moved(0, 5), hunk(5, 0, [3], [])],
        {1: [], 5: [2, 1, 6, 6, 5], 9: [6, 7]}),
    "rows: a file added, filled and moved": (
        TREE, [added(3), hunk(3, 0, [], [1, 2]), moved(3, 4), swap(4, 1, 2)], [removed(1), swap(0, 1, 2)],
        [removed(1), swap(0, 1, 2)], [added(3), hunk(3, 0, [], [1, 2]), moved(3, 4), swap(4, 1, 2)],
        {0: [2, 1, 3, 4, 5], 2: [6, 7], 4: [2, 1]}),
    "rows: a file moved and another one added at its name": (
        TREE, [moved(0, 5), added(0)], [hunk(0, 0, [1], [])], [hunk(5, 0, [1], [])], [moved(0, 5), added(0)],
        {**TREE, 0: [], 5: [2, 3, 4, 5]}),
    "rows: two moves of one file past a hunk": (
        TREE, [moved(0, 5), moved(5, 6)], [hunk(0, 0, [1], []), hunk(0, 0, [2], [8])],
        [hunk(6, 0, [1], []), hunk(6, 0, [2], [8])], [moved(0, 5), moved(5, 6)],
        {1: [], 2: [6, 7], 6: [8, 3, 4, 5]}),
    "rows: a place that only the last step of the first row lets be": (
        {0: [1, 2, 3, 4]}, [hunk(0, 0, [], [8, 8]), hunk(0, 5, [4], [])], [hunk(0, 2, [], [9])],
        [hunk(0, 4, [], [9])], [hunk(0, 0, [], [8, 8]), hunk(0, 6, [4], [])], {0: [8, 8, 1, 2, 9, 3]}),
}
APART = {
    "hunks of the same token": (TREE, [hunk(0, 1, [2], [8])], [hunk(0, 1, [2], [9])]),
    "the same hunk": (TREE, [hunk(0, 1, [2], [8])], [hunk(0, 1, [2], [8])]),
    "hunks beside one another": (TREE, [hunk(0, 1, [2], [8])], [hunk(0, 2, [3], [9])]),
    "hunks that overlap": (TREE, [hunk(0, 1, [2, 3], [8])], [hunk(0, 2, [3, 4], [9])]),
    "a hunk within another": (TREE, [hunk(0, 0, [1, 2, 3, 4, 5], [])], [hunk(0, 2, [], [9])]),
    "hunks without old tokens at one place": (TREE, [hunk(0, 2, [], [8])], [hunk(0, 2, [], [9])]),
    "hunks in an empty file": (TREE, [hunk(1, 0, [], [8])], [hunk(1, 0, [], [9])]),
    "a hunk just ahead of another's old tokens": (TREE, [hunk(0, 2, [], [8])], [hunk(0, 2, [3], [])]),
    "a hunk just behind another's old tokens": (TREE, [hunk(0, 3, [], [8])], [hunk(0, 2, [3], [9])]),
    "hunks at the end": (TREE, [hunk(0, 5, [], [8])], [hunk(0, 4, [5], [])]),
    "swaps with their first tokens in common": (TREE, [swap(0, 1, 2)], [swap(0, 1, 3)]),
    "swaps with their last tokens in common": (TREE, [swap(0, 1, 2)], [swap(0, 3, 2)]),
    "swaps with a first and a last token in common": (TREE, [swap(0, 1, 2)], [swap(0, 2, 3)]),
    "the same swap": (TREE, [swap(0, 1, 2)], [swap(0, 1, 2)]),
    "a swap and the same the other way round": (TREE, [swap(0, 1, 2)], [swap(0, 2, 1)]),
    "added twice": (TREE, [added(9)], [added(9)]),
    "removed twice": (TREE, [removed(1)], [removed(1)]),
    "added and moved there": (TREE, [added(9)], [moved(0, 9)]),
    "removed and moved": (TREE, [removed(1)], [moved(1, 9)]),
    "removed and a hunk": (TREE, [removed(1)], [hunk(1, 0, [], [3])]),
    "removed and a swap": (TREE, [removed(1)], [swap(1, 3, 4)]),
    "moved twice alike": (TREE, [moved(0, 9)], [moved(0, 9)]),
    "moved to two names": (TREE, [moved(0, 8)], [moved(0, 9)]),
    "two files moved to one name": (TREE, [moved(0, 9)], [moved(2, 9)]),
    "rows: the last steps are in the way": (
        TREE, [swap(0, 1, 2), added(9)], [hunk(0, 0, [1], [7]), added(9)]),
    "rows: the first steps are in the way": (
        TREE, [added(9), swap(0, 1, 2)], [added(9), hunk(0, 0, [1], [7])]),
    "rows: first and last are in the way": (
        TREE, [removed(1), swap(0, 1, 2)], [hunk(0, 0, [1], [7]), hunk(1, 0, [], [7])]),
    "rows: a file moved twice over, each row to a name of its own": (
        TREE, [moved(0, 5), added(0), hunk(0, 0, [], [1])], [moved(0, 7)]),
    "rows: a file moved away and back": (
        TREE, [moved(0, 5), moved(5, 0)], [moved(0, 6)]),
    "rows: a hunk and it turned round": (
        TREE, [hunk(0, 1, [2], [9]), hunk(0, 1, [9], [2])], [hunk(0, 1, [2], [8])]),
    "rows: what the first one added, the second one has moved there": (
        TREE, [added(5), hunk(5, 0, [], [1])], [moved(2, 5)]),
}


class Merged(unittest.TestCase):
    def test_merge_answers_what_comes_of_both(self):
        for why, (told, first, second, second_behind, first_behind, comes) in MERGED.items():
            with self.subTest(why):
                given = after_laid(told, [first, second], merge(0, 1), merge(1, 0))
                self.assertEqual([[1] + files(comes)] * 2, given)

    def test_sides_answers_each_row_behind_the_other(self):
        for why, (told, first, second, second_behind, first_behind, comes) in MERGED.items():
            with self.subTest(why):
                given = after_laid(told, [first, second], sides(0, 1), sides(1, 0))
                self.assertEqual([[1] + row_of(second_behind) + row_of(first_behind),
                                  [1] + row_of(first_behind) + row_of(second_behind)], given)

    def test_the_rows_told_lead_to_the_tree_told(self):
        for why, (told, first, second, second_behind, first_behind, comes) in MERGED.items():
            with self.subTest(why):
                rows = [first + second_behind, second + first_behind]
                self.assertEqual([files(comes)] * 2, after_laid(told, rows, outcome(0), outcome(1)))

    def test_what_can_not_be_merged(self):
        for why, (told, first, second) in APART.items():
            with self.subTest(why):
                given = after_laid(told, [first, second], merge(0, 1), merge(1, 0), sides(0, 1), sides(1, 0))
                self.assertEqual([[0]] * 4, given)

    def test_nothing_is_changed(self):
        first = [moved(0, 5), hunk(5, 0, [1], [])]
        second = [swap(0, 1, 3), hunk(0, 3, [4], [6, 6])]
        asked = [merge(0, 3), sides(0, 3), shown(0), shown(3), shown(1), outcome(0), outcome(3)]
        given = after_laid(TREE, [first, [], [], second], *(asked + asked))
        self.assertEqual(given[:7], given[7:])
        self.assertEqual([row_of(first), row_of(second), [0]], given[2:5])

    def test_eight_steps_each(self):
        first = [hunk(0, 0, [], [place]) for place in range(8)]
        second = [hunk(0, 3 + place, [], [place]) for place in range(8)]
        comes = [7, 6, 5, 4, 3, 2, 1, 0, 50, 51, 52] + [0, 1, 2, 3, 4, 5, 6, 7]
        behind = [hunk(0, 11 + place, [], [place]) for place in range(8)]
        given = after_laid({0: [50, 51, 52]}, [first, second], merge(0, 1), sides(1, 0))
        self.assertEqual([[1] + files({0: comes}), [1] + row_of(first) + row_of(behind)], given)


class Order(unittest.TestCase):
    """Refusals are looked at in the order told."""

    WRONG = (-1, 4, 10 ** 18, -10 ** 18)

    def test_no_tree_first(self):
        for row, other in ((0, 1), (0, 0), (4, 0), (0, -1), (9, 9)):
            self.assertEqual([[-8], [-8]], ask(merge(row, other), sides(row, other)))

    def test_then_no_row(self):
        for wrong in self.WRONG:
            for row, other in ((wrong, 0), (0, wrong), (wrong, wrong), (wrong, 5)):
                given = ask(tree([0]), merge(row, other), sides(row, other))
                self.assertEqual([[-2], [-2]], given[1:])

    def test_then_the_same_row(self):
        for row in range(4):
            self.assertEqual([[-3], [-3]], ask(tree([0]), merge(row, row), sides(row, row))[1:])

    def test_any_two_rows(self):
        for row in range(4):
            for other in range(4):
                if row != other:
                    given = ask(tree([1, 3, 0]), merge(row, other), sides(row, other))
                    self.assertEqual([[1, 1, 3, 0], [1, 0, 0]], given[1:])

    def test_a_refusal_is_one_number(self):
        self.assertEqual([-3], last(tree(files(TREE)), merge(2, 2)))

"""Promise 1: tree, and what a tree as numbers is."""

import unittest

from tests.calls import ask, files, hunk, last, outcome, shown, step, tree

FULL = {name: list(range(88, 100)) for name in (0, 1, 3, 5, 8, 9)}

NO_TREES = {
    "nothing at all": [],
    "fewer than no files": [-1],
    "no files, but more numbers": [0, 0],
    "a file that isn't told": [1],
    "a name alone": [1, 0],
    "one token too few": [1, 0, 2, 5],
    "one number too many": [1, 0, 1, 5, 5],
    "a file too few": [2, 0, 0],
    "a file too many": [1, 0, 0, 1, 0],
    "a name below 0": [1, -1, 0],
    "a name that is too high": [1, 10, 0],
    "a count below 0": [1, 0, -1],
    "a token below 0": [1, 0, 1, -1],
    "a token that is too high": [1, 0, 1, 100],
    "a later token that is too high": [2, 0, 1, 5, 1, 2, 5, 100],
    "one name twice": [2, 3, 0, 3, 0],
    "names that fall": [2, 3, 0, 2, 0],
    "a name far too high": [1, 10 ** 18, 0],
    "far too many files": [10 ** 18, 0, 0],
    "far too many tokens": [1, 0, 10 ** 18],
    "a count far below 0": [1, 0, -10 ** 18],
    "13 tokens in a file": [1, 0, 13] + [1] * 13,
    "13 tokens in the last file": [2, 0, 0, 9, 13] + [1] * 13,
    "7 files": [7] + [number for name in range(7) for number in (name, 0)],
    "100 numbers": [6] + [0] * 99,
}


class Tree(unittest.TestCase):
    def test_answers_how_many_files(self):
        self.assertEqual([[0], [1], [3]], ask(
            tree([0]), tree([1, 4, 2, 7, 7]), tree([3, 0, 0, 4, 1, 99, 9, 2, 0, 1])))

    def test_six_files_of_twelve_tokens(self):
        self.assertEqual([[6], files(FULL)], ask(tree(files(FULL)), outcome(2)))

    def test_what_is_no_tree(self):
        for why, items in NO_TREES.items():
            with self.subTest(why):
                self.assertEqual([[-1]], ask(tree(items)))

    def test_a_refused_one_leaves_no_tree_behind(self):
        for why, items in NO_TREES.items():
            with self.subTest(why):
                self.assertEqual([[-1], [-8]], ask(tree(items), outcome(0)))

    def test_a_refused_one_leaves_tree_and_rows(self):
        added = hunk(2, 1, [], [7])
        for why, items in NO_TREES.items():
            with self.subTest(why):
                given = ask(tree([1, 2, 1, 5]), step(3, added), tree(items), shown(3), outcome(3), outcome(0))
                self.assertEqual([[-1], [1] + added, [1, 2, 2, 5, 7], [1, 2, 1, 5]], given[2:])

    def test_a_new_one_empties_all_rows(self):
        steps = [step(row, hunk(2, 0, [], [row])) for row in range(4)]
        calls = [tree([1, 2, 0])] + steps + [tree([2, 0, 0, 2, 1, 5])]
        given = ask(*(calls + [shown(row) for row in range(4)] + [outcome(row) for row in range(4)]))
        self.assertEqual([[2]] + [[0]] * 4 + [[2, 0, 0, 2, 1, 5]] * 4, given[5:])

    def test_the_same_one_again_empties_rows_too(self):
        self.assertEqual([0], last(tree([1, 2, 0]), step(0, hunk(2, 0, [], [1])), tree([1, 2, 0]), shown(0)))

"""Promises 3 and 4: step, shown and outcome, and what a step as numbers is."""

import unittest

from tests.calls import (added, after_laid, ask, files, hunk, laid, last, moved, outcome, removed, row_of, shown, step,
                         swap, tree)

TREE = {0: [1, 2, 3, 2], 4: []}

STEPS = {
    "a hunk": (hunk(0, 1, [2, 3], [9]), {0: [1, 9, 2], 4: []}),
    "a hunk at the beginning": (hunk(0, 0, [1], [7, 8]), {0: [7, 8, 2, 3, 2], 4: []}),
    "a hunk up to the end": (hunk(0, 2, [3, 2], [5]), {0: [1, 2, 5], 4: []}),
    "a hunk at the end": (hunk(0, 4, [], [5]), {0: [1, 2, 3, 2, 5], 4: []}),
    "a hunk in an empty file": (hunk(4, 0, [], [5, 6]), {0: [1, 2, 3, 2], 4: [5, 6]}),
    "a hunk without old tokens": (hunk(0, 1, [], [0, 99]), {0: [1, 0, 99, 2, 3, 2], 4: []}),
    "a hunk without new tokens": (hunk(0, 0, [1, 2, 3, 2], []), {0: [], 4: []}),
    "a hunk of the same tokens": (hunk(0, 1, [2], [2]), {0: [1, 2, 3, 2], 4: []}),
    "a hunk of 8 new tokens": (hunk(0, 3, [2], [8] * 8), {0: [1, 2, 3] + [8] * 8, 4: []}),
    "a swap": (swap(0, 2, 3), {0: [1, 3, 2, 3], 4: []}),
    "a swap the other way round": (swap(0, 3, 2), {0: [1, 3, 2, 3], 4: []}),
    "a swap of which one stands": (swap(0, 2, 99), {0: [1, 99, 3, 99], 4: []}),
    "a swap of which none stands": (swap(0, 0, 99), {0: [1, 2, 3, 2], 4: []}),
    "a swap in an empty file": (swap(4, 2, 3), {0: [1, 2, 3, 2], 4: []}),
    "added": (added(9), {0: [1, 2, 3, 2], 4: [], 9: []}),
    "added between": (added(1), {0: [1, 2, 3, 2], 1: [], 4: []}),
    "removed": (removed(4), {0: [1, 2, 3, 2]}),
    "moved": (moved(0, 9), {4: [], 9: [1, 2, 3, 2]}),
    "moved down": (moved(4, 3), {0: [1, 2, 3, 2], 3: []}),
}

NO_STEPS = {
    "nothing at all": [],
    "no kind": [-1, 0],
    "a kind that is too high": [5, 0, 1],
    "a kind far too high": [10 ** 18, 0, 1],
    "a hunk's kind alone": [0],
    "a hunk up to its file": [0, 0],
    "a hunk up to its place": [0, 0, 0],
    "a hunk up to its old count": [0, 0, 0, 1],
    "a hunk up to its old tokens": [0, 0, 0, 1, 1],
    "a hunk with an old token too few": [0, 0, 0, 2, 1],
    "a hunk with a new token too few": [0, 0, 0, 1, 1, 2, 7],
    "a hunk with a number too many": [0, 0, 0, 1, 1, 1, 7, 7],
    "a hunk with none of both": hunk(0, 0, [], []),
    "a hunk with none of both and more": [0, 0, 0, 0, 0, 1],
    "a hunk with 9 old tokens": hunk(0, 0, [1] * 9, []),
    "a hunk with 9 new tokens": hunk(0, 0, [], [1] * 9),
    "a hunk with fewer than no old tokens": [0, 0, 0, -1, 1, 7],
    "a hunk with fewer than no new tokens": [0, 0, 0, 1, 1, -1],
    "a hunk with far too many tokens": [0, 0, 0, 10 ** 18, 1, 7],
    "a hunk with a place below 0": hunk(0, -1, [], [7]),
    "a hunk with a place above 1000": hunk(0, 1001, [], [7]),
    "a hunk with a place far above": hunk(0, 10 ** 18, [], [7]),
    "a hunk with a name below 0": hunk(-1, 0, [], [7]),
    "a hunk with a name that is too high": hunk(10, 0, [], [7]),
    "a hunk with an old token below 0": hunk(0, 0, [-1], [7]),
    "a hunk with an old token that is too high": hunk(0, 0, [100], [7]),
    "a hunk with a new token below 0": hunk(0, 0, [1], [-1]),
    "a hunk with a new token that is too high": hunk(0, 0, [1], [7, 100]),
    "30 numbers": [0, 0, 0, 8] + [1] * 26,
    "a swap's kind alone": [1],
    "a swap with a token too few": [1, 0, 1],
    "a swap with a number too many": [1, 0, 1, 2, 3],
    "a swap of a token with itself": swap(0, 1, 1),
    "a swap with a name below 0": swap(-1, 1, 2),
    "a swap with a name that is too high": swap(10, 1, 2),
    "a swap with a first token below 0": swap(0, -1, 2),
    "a swap with a first token that is too high": swap(0, 100, 2),
    "a swap with a second token below 0": swap(0, 1, -1),
    "a swap with a second token that is too high": swap(0, 1, 100),
    "added alone": [2],
    "added with a number too many": [2, 9, 9],
    "added with a name below 0": added(-1),
    "added with a name that is too high": added(10),
    "removed alone": [3],
    "removed with a number too many": [3, 4, 4],
    "removed with a name below 0": removed(-1),
    "removed with a name that is too high": removed(10),
    "moved alone": [4],
    "moved with one name": [4, 0],
    "moved with a number too many": [4, 0, 9, 9],
    "moved to the same name": moved(0, 0),
    "moved from a name below 0": moved(-1, 9),
    "moved from a name that is too high": moved(10, 9),
    "moved to a name below 0": moved(0, -1),
    "moved to a name that is too high": moved(0, 10),
}

NO_FITS = {
    "a hunk in a file that isn't there": hunk(1, 0, [], [7]),
    "a hunk beyond the end": hunk(0, 5, [], [7]),
    "a hunk at place 1000": hunk(0, 1000, [], [7]),
    "a hunk of other old tokens": hunk(0, 1, [3], [7]),
    "a hunk of old tokens that stand one further": hunk(0, 0, [2, 3], [7]),
    "a hunk whose last old token is another": hunk(0, 1, [2, 2], [7]),
    "a hunk of old tokens beyond the end": hunk(0, 3, [2, 2], [7]),
    "a hunk of old tokens at the end": hunk(0, 4, [2], [7]),
    "a hunk of 8 old tokens": hunk(0, 0, [1] * 8, [1] * 8),
    "a hunk of old tokens in an empty file": hunk(4, 0, [1], [7]),
    "a hunk beyond an empty file's end": hunk(4, 1, [], [7]),
    "a swap in a file that isn't there": swap(9, 1, 2),
    "added what is there": added(0),
    "added an empty file that is there": added(4),
    "removed what isn't there": removed(1),
    "removed what isn't empty": removed(0),
    "moved what isn't there": moved(1, 2),
    "moved to what is there": moved(0, 4),
    "moved from an empty file to what is there": moved(4, 0),
}


class Steps(unittest.TestCase):
    def test_answers_its_place_and_stands_there(self):
        for why, (items, comes) in STEPS.items():
            with self.subTest(why):
                given = ask(tree(files(TREE)), step(1, items), shown(1), outcome(1))
                self.assertEqual([[2], [0], [1] + items, files(comes)], given)

    def test_stands_in_its_row_alone(self):
        given = after_laid(TREE, [[], [added(9)]], shown(0), outcome(0), shown(2), shown(3), shown(1))
        self.assertEqual([[0], files(TREE), [0], [0], [1] + added(9)], given)

    def test_rows_of_several_steps(self):
        steps = [added(1), hunk(1, 0, [], [3, 4]), swap(1, 3, 0), moved(1, 2), removed(4), hunk(2, 1, [4], []),
                 moved(0, 4), hunk(2, 0, [0], [])]
        given = ask(*(laid(TREE, steps) + [shown(0), outcome(0)]))
        self.assertEqual([[place] for place in range(8)] + [row_of(steps), [2, 2, 0, 4, 4, 1, 2, 3, 2]], given[1:])

    def test_a_file_may_get_longer_than_a_tree_handed_in(self):
        steps = [hunk(0, 12 + 8 * place, [], [place] * 8) for place in range(8)]
        comes = [5] * 12 + [place for place in range(8) for _ in range(8)]
        self.assertEqual([files({0: comes})], after_laid({0: [5] * 12}, [steps], outcome(0)))

    def test_there_may_be_more_files_than_in_a_tree_handed_in(self):
        told = {name: [] for name in range(6)}
        comes = {name: [] for name in range(10)}
        self.assertEqual([files(comes)], after_laid(told, [[added(name) for name in range(6, 10)]], outcome(0)))

    def test_what_is_no_step(self):
        for why, items in NO_STEPS.items():
            with self.subTest(why):
                given = ask(tree(files(TREE)), step(0, items), shown(0), outcome(0))
                self.assertEqual([[-1], [0], files(TREE)], given[1:])

    def test_what_does_not_fit(self):
        for why, items in NO_FITS.items():
            with self.subTest(why):
                given = ask(tree(files(TREE)), step(0, items), shown(0), outcome(0))
                self.assertEqual([[-4], [0], files(TREE)], given[1:])

    def test_fits_what_comes_of_its_row(self):
        row = laid(TREE, [hunk(0, 0, [1], [9]), moved(0, 7)])
        self.assertEqual([-4], last(*(row + [step(0, hunk(0, 0, [9], []))])))
        self.assertEqual([-4], last(*(row + [step(0, hunk(7, 0, [1], []))])))
        self.assertEqual([2], last(*(row + [step(0, hunk(7, 0, [9], []))])))
        self.assertEqual([0], last(*(row + [step(1, hunk(0, 0, [1], []))])))

    def test_eight_steps_and_no_more(self):
        eight = [swap(0, 1, 2)] * 8
        given = ask(*(laid(TREE, eight) + [step(0, swap(0, 1, 2)), shown(0), step(1, swap(0, 1, 2))]))
        self.assertEqual([[7], [-6], row_of(eight), [0]], given[8:])


class Order(unittest.TestCase):
    """Refusals are looked at in the order told."""

    FULL_ROW = laid(TREE, [swap(0, 1, 2)] * 8)

    def test_no_tree_first(self):
        for row in (0, 3, 4, -1):
            for items in ([], swap(0, 1, 1), swap(0, 1, 2), removed(9)):
                self.assertEqual([[-8]], ask(step(row, items)))
            self.assertEqual([[-8], [-8]], ask(shown(row), outcome(row)))

    def test_then_no_row(self):
        for row in (-1, 4, 10 ** 18, -10 ** 18):
            for items in ([], swap(0, 1, 1), swap(0, 1, 2), removed(9)):
                self.assertEqual([-2], last(*(self.FULL_ROW + [step(row, items)])))
            given = ask(tree(files(TREE)), shown(row), outcome(row))
            self.assertEqual([[-2], [-2]], given[1:])

    def test_rows_0_to_3(self):
        for row in range(4):
            given = ask(tree(files(TREE)), step(row, removed(4)), shown(row), outcome(row))
            self.assertEqual([[0], [1] + removed(4), files({0: TREE[0]})], given[1:])

    def test_then_no_step(self):
        for items in NO_STEPS.values():
            self.assertEqual([-1], last(*(self.FULL_ROW + [step(0, items)])))

    def test_then_a_full_row(self):
        for items in NO_FITS.values():
            self.assertEqual([-6], last(*(self.FULL_ROW + [step(0, items)])))

    def test_then_what_does_not_fit(self):
        seven = laid(TREE, [swap(0, 1, 2)] * 7)
        for items in NO_FITS.values():
            given = ask(*(seven + [step(0, items), step(0, swap(0, 1, 2)), step(0, items)]))
            self.assertEqual([[-4], [7], [-6]], given[8:])

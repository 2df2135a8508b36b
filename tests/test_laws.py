"""What holds of every two rows from one tree, looked at for many of them."""

import random
import unittest

from tests.calls import (added, after_laid, ask, hunk, laid, last, merge, moved, outcome, removed, row_of, sides, step,
                         swap)
from tests.drawn import NAMES, TOKENS, TREE, fitting, some_row, split_rows, split_tree


def untouched_between(one, other):
    """Whether at least one token that neither hunk touches stands between them."""
    return other[2] - (one[2] + one[3]) >= 1 or one[2] - (other[2] + other[3]) >= 1


def may_be_merged(one, other):
    """Whether two steps that fit one tree may be, told of the steps as they are, not turned round."""
    names = [step[1:3] if step[0] == 4 else step[1:2] for step in (one, other)]
    if not set(names[0]) & set(names[1]):
        return True
    kinds = sorted([one[0], other[0]])
    if kinds == [0, 0]:
        return untouched_between(one, other)
    if kinds == [1, 1]:
        return not set(one[2:]) & set(other[2:])
    return kinds in ([0, 1], [0, 4], [1, 4])


def square(told, one, other):
    """Two steps merged: the other one behind the one, the one behind the other; None if they can't be."""
    answer = after_laid(told, [[one], [other]], sides(0, 1))[0]
    if answer == [0]:
        return None
    second, first = split_rows(answer[1:])
    return second[0], first[0]


def after_step(told, items):
    """The tree that comes of a step, as a dict."""
    return split_tree(after_laid(told, [[items]], outcome(0))[0])


def by_squares(told, first, second):
    """Two rows merged step by step, each two steps from the tree where they both stand; None if they can't be."""
    second_behind = []
    for other in second:
        first_behind = []
        here = told
        told = after_step(told, other)
        for one in first:
            both = square(here, one, other)
            if both is None:
                return None
            here = after_step(here, one)
            other = both[0]
            first_behind.append(both[1])
        second_behind.append(other)
        first = first_behind
    return second_behind, first


class Laws(unittest.TestCase):
    def assert_merged_well(self, told, first, second):
        """Both ways lead to the one tree that merge answers, whichever row is named first."""
        given = after_laid(told, [first, second], sides(0, 1), sides(1, 0), merge(0, 1), merge(1, 0))
        self.assertEqual(given[2], given[3])
        self.assertEqual(given[0][0], given[2][0])
        if given[0] == [0]:
            self.assertEqual([[0]] * 4, given)
            return None
        second_behind, first_behind = split_rows(given[0][1:])
        self.assertEqual([1] + row_of(first_behind) + row_of(second_behind), given[1])
        both_ways = after_laid(told, [first + second_behind, second + first_behind], outcome(0), outcome(1))
        self.assertEqual([given[2][1:]] * 2, both_ways)
        return second_behind, first_behind

    def test_every_two_steps(self):
        steps = fitting(TREE)
        merged = 0
        for one in steps:
            for other in steps:
                both = self.assert_merged_well(TREE, [one], [other])
                self.assertEqual(may_be_merged(one, other), both is not None, (one, other))
                merged += both is not None
        self.assertGreater(merged, 500)
        self.assertGreater(len(steps) ** 2 - merged, 500)

    def test_rows_of_several_steps(self):
        chance = random.Random(2)
        merged = 0
        for _ in range(1500):
            first = some_row(chance, TREE, 4)
            second = some_row(chance, TREE, 4)
            both = self.assert_merged_well(TREE, first, second)
            self.assertEqual(by_squares(TREE, first, second), both, (first, second))
            merged += both is not None and len(first) > 1 and len(second) > 1
        self.assertGreater(merged, 50)

    def test_steps_that_are_taken_are_those_that_fit(self):
        steps = fitting(TREE)
        news = [[], [1], [3], [2, 3]]
        runs = [[]] + [[one] for one in TOKENS] + [[one, other] for one in TOKENS for other in TOKENS]
        tried = [hunk(name, place, old, new) for name in NAMES for place in range(5) for old in runs for new in news
                 if old or new]
        tried += [kind(name) for kind in (added, removed) for name in NAMES]
        tried += [moved(old, new) for old in NAMES for new in NAMES if old != new]
        tried += [swap(name, one, other) for name in NAMES for one in TOKENS for other in TOKENS if one != other]
        taken = [items for items in tried if ask(*laid(TREE), step(0, items))[1] == [0]]
        self.assertEqual(sorted(steps), sorted(taken))
        self.assertEqual([-4], last(*laid(TREE), step(0, [items for items in tried if items not in steps][0])))

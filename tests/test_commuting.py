"""The ways in which a step and one behind it may be commuted, and that else they may not."""

import unittest

from rowsmerged.commuting import commuted
from rowsmerged.steps import row_told, row_turned, step_of
from tests.calls import added, hunk, moved, removed, row_of, swap

# Each: a step, one behind it; ahead then, behind then.
WAYS = {
    "no name in common": (hunk(0, 3, [1], []), swap(1, 1, 2), swap(1, 1, 2), hunk(0, 3, [1], [])),
    "no name in common with a move": (moved(0, 1), moved(2, 3), moved(2, 3), moved(0, 1)),
    "no name in common with added and removed": (added(4), removed(5), removed(5), added(4)),
    "hunks, one above by one more than it has new tokens": (
        hunk(0, 2, [1, 1, 1], [2, 2]), hunk(0, 5, [], [9]), hunk(0, 6, [], [9]), hunk(0, 2, [1, 1, 1], [2, 2])),
    "hunks, far above": (
        hunk(0, 0, [], [2, 2]), hunk(0, 500, [7], []), hunk(0, 498, [7], []), hunk(0, 0, [], [2, 2])),
    "hunks, one above without new tokens ahead": (
        hunk(0, 4, [1], []), hunk(0, 5, [], [9]), hunk(0, 6, [], [9]), hunk(0, 4, [1], [])),
    "hunks, one below by one more than it has old tokens": (
        hunk(0, 5, [1], [2, 2]), hunk(0, 3, [9], [8, 8, 8]), hunk(0, 3, [9], [8, 8, 8]), hunk(0, 7, [1], [2, 2])),
    "hunks, one below without old tokens": (
        hunk(0, 5, [1], []), hunk(0, 4, [], [8]), hunk(0, 4, [], [8]), hunk(0, 6, [1], [])),
    "hunks, one below without new tokens": (
        hunk(0, 5, [], [1]), hunk(0, 0, [1, 2, 3, 4], []), hunk(0, 0, [1, 2, 3, 4], []), hunk(0, 1, [], [1])),
    "hunks, beyond place 1000": (
        hunk(0, 1000, [], [1]), hunk(0, 0, [], [2] * 8), hunk(0, 0, [], [2] * 8), hunk(0, 1008, [], [1])),
    "a hunk and a swap": (
        hunk(3, 7, [1, 2, 5], [2, 2]), swap(3, 2, 1), swap(3, 2, 1), hunk(3, 7, [2, 1, 5], [1, 1])),
    "a swap and a hunk": (
        swap(3, 2, 1), hunk(3, 7, [1, 2, 5], [2, 2]), hunk(3, 7, [2, 1, 5], [1, 1]), swap(3, 2, 1)),
    "two swaps with no token in common": (swap(0, 1, 2), swap(0, 4, 3), swap(0, 4, 3), swap(0, 1, 2)),
    "a move and a hunk inside its new name": (
        moved(0, 1), hunk(1, 2, [3], [4]), hunk(0, 2, [3], [4]), moved(0, 1)),
    "a move and a swap inside its new name": (moved(0, 1), swap(1, 9, 8), swap(0, 9, 8), moved(0, 1)),
    "a hunk and a move of its file": (hunk(0, 2, [3], [4]), moved(0, 1), moved(0, 1), hunk(1, 2, [3], [4])),
    "a swap and a move of its file": (swap(0, 9, 8), moved(0, 1), moved(0, 1), swap(1, 9, 8)),
}

ELSE_NOT = {
    "hunks, just above": (hunk(0, 2, [1, 1, 1], [2, 2]), hunk(0, 4, [], [9])),
    "hunks, at one place": (hunk(0, 2, [1], [2]), hunk(0, 2, [2], [1])),
    "hunks, just below": (hunk(0, 4, [1], [2, 2]), hunk(0, 3, [9], [8, 8, 8])),
    "hunks, just below without old tokens": (hunk(0, 4, [], [2]), hunk(0, 4, [], [8])),
    "swaps, first tokens in common": (swap(0, 1, 2), swap(0, 1, 3)),
    "swaps, last tokens in common": (swap(0, 2, 1), swap(0, 3, 1)),
    "swaps, crosswise": (swap(0, 1, 2), swap(0, 3, 1)),
    "swaps, crosswise the other way": (swap(0, 1, 2), swap(0, 2, 3)),
    "swaps, the same": (swap(0, 1, 2), swap(0, 1, 2)),
    "a move and a hunk inside its old name": (moved(0, 1), hunk(0, 2, [3], [4])),
    "a move and a swap inside its old name": (moved(0, 1), swap(0, 9, 8)),
    "a hunk and a move to its file": (hunk(1, 2, [3], [4]), moved(0, 1)),
    "a swap and a move to its file": (swap(1, 9, 8), moved(0, 1)),
    "a move and a move on": (moved(0, 1), moved(1, 2)),
    "a move and a move back": (moved(0, 1), moved(1, 0)),
    "a move and a move to where it was": (moved(0, 1), moved(2, 0)),
    "a move and the same": (moved(0, 1), moved(0, 1)),
    "a move and its old name added": (moved(0, 1), added(0)),
    "a move and its new name removed": (moved(0, 1), removed(1)),
    "added and a hunk": (added(0), hunk(0, 0, [], [1])),
    "a hunk and removed": (hunk(0, 0, [1], []), removed(0)),
    "added and a swap": (added(0), swap(0, 1, 2)),
    "a swap and removed": (swap(0, 1, 2), removed(0)),
    "added and moved": (added(0), moved(0, 1)),
    "removed and moved there": (removed(1), moved(0, 1)),
    "added and removed": (added(0), removed(0)),
    "removed and added": (removed(0), added(0)),
    "added twice": (added(0), added(0)),
}

TURNED = [
    (hunk(1, 2, [3], [4, 5]), hunk(1, 2, [4, 5], [3])),
    (swap(1, 2, 3), swap(1, 2, 3)),
    (added(4), removed(4)),
    (removed(4), added(4)),
    (moved(1, 2), moved(2, 1)),
]


class Commuted(unittest.TestCase):
    def test_ways(self):
        for why, (step, behind, ahead_then, behind_then) in WAYS.items():
            with self.subTest(why):
                both = commuted(step_of(step), step_of(behind))
                self.assertEqual((ahead_then, behind_then), (both[0].told(), both[1].told()))

    def test_commuted_again_they_are_as_before(self):
        for why, (step, behind, ahead_then, behind_then) in WAYS.items():
            with self.subTest(why):
                once = commuted(step_of(step), step_of(behind))
                twice = commuted(once[0], once[1])
                self.assertEqual((step, behind), (twice[0].told(), twice[1].told()))

    def test_else_not(self):
        for why, (step, behind) in ELSE_NOT.items():
            with self.subTest(why):
                self.assertIsNone(commuted(step_of(step), step_of(behind)))

    def test_steps_stay_as_they_were(self):
        for why, (step, behind, ahead_then, behind_then) in WAYS.items():
            with self.subTest(why):
                before = [step_of(step), step_of(behind)]
                commuted(before[0], before[1])
                self.assertEqual([step, behind], [part.told() for part in before])


class Turned(unittest.TestCase):
    def test_each_kind(self):
        for step, turned in TURNED:
            self.assertEqual(turned, step_of(step).turned().told())

    def test_a_row_turned_round_has_its_last_step_first(self):
        row = [step_of(step) for step, turned in TURNED]
        self.assertEqual(row_of([turned for step, turned in reversed(TURNED)]), row_told(row_turned(row)))
        self.assertEqual(row_of([step for step, turned in TURNED]), row_told(row))

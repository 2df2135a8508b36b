"""Promises 3, 4 and 6: pull and drop, and what the calls answer of a row that pull made longer."""

import unittest

from tests.calls import (added, after_laid, ask, clean, conflicts, drop, files, hunk, laid, last, merge, merge_all,
                         moved, outcome, pull, removed, row_of, shown, sides, step, swap, tree)

TREE = {0: [1, 2, 3, 4, 5], 1: [], 2: [6, 7]}

FIRST = [hunk(0, 0, [1], [8, 8]), moved(2, 5)]
SECOND = [hunk(0, 2, [3], [9]), swap(2, 6, 1), removed(1)]
SECOND_BEHIND = [hunk(0, 3, [3], [9]), swap(5, 6, 1), removed(1)]
COMES = {0: [8, 8, 2, 9, 4, 5], 5: [1, 7]}

# Each row's eight steps have files of their own.
EIGHTS = [[swap(row, 1, 9)] * 8 for row in range(3)]
EIGHTS_TREE = {0: [1], 1: [1], 2: [9], 3: []}


class Pull(unittest.TestCase):
    def test_the_second_row_stands_behind_the_first_one(self):
        given = after_laid(TREE, [FIRST, SECOND], pull(0, 1), shown(0), outcome(0))
        self.assertEqual([[5], row_of(FIRST + SECOND_BEHIND), files(COMES)], given)

    def test_the_other_way_round(self):
        behind = [hunk(0, 0, [1], [8, 8]), moved(2, 5)]
        given = after_laid(TREE, [FIRST, SECOND], pull(1, 0), shown(1), outcome(1), shown(0))
        self.assertEqual([[5], row_of(SECOND + behind), files(COMES), row_of(FIRST)], given)

    def test_it_is_what_sides_and_merge_tell(self):
        given = after_laid(TREE, [FIRST, SECOND], sides(0, 1), merge(0, 1), pull(0, 1), shown(0), outcome(0))
        self.assertEqual([1] + row_of(SECOND_BEHIND) + row_of(FIRST), given[0])
        self.assertEqual(given[1], [1] + given[4])

    def test_the_other_rows_and_the_tree_stay(self):
        rows = [FIRST, SECOND, [added(9)], [added(8)]]
        given = after_laid(TREE, rows, pull(0, 1), shown(1), outcome(1), shown(2), shown(3), merge_all([]))
        self.assertEqual([row_of(SECOND), files({0: [1, 2, 9, 4, 5], 2: [1, 7]}), row_of([added(9)]),
                          row_of([added(8)]), [1] + files(TREE)], given[1:])

    def test_empty_rows(self):
        given = after_laid(TREE, [FIRST], pull(1, 2), pull(0, 1), shown(0), pull(1, 0), shown(1), shown(0), shown(2))
        self.assertEqual([[0], [2], row_of(FIRST), [2], row_of(FIRST), row_of(FIRST), [0]], given)

    def test_a_row_that_was_pulled_goes_on_by_itself(self):
        given = after_laid(TREE, [FIRST], pull(1, 0), step(1, added(9)), step(0, added(8)), shown(0), shown(1))
        self.assertEqual([[2], [2], [2], row_of(FIRST + [added(8)]), row_of(FIRST + [added(9)])], given)

    def test_an_empty_row_pulled_goes_on_by_itself(self):
        given = after_laid(TREE, [], pull(1, 0), step(1, added(9)), shown(0), shown(1), shown(2), shown(3))
        self.assertEqual([[0], [0], [0], row_of([added(9)]), [0], [0]], given)

    def test_any_two_rows(self):
        for row in range(4):
            for other in range(4):
                if row != other:
                    rows = [FIRST if place == row else SECOND if place == other else [] for place in range(4)]
                    given = after_laid(TREE, rows, pull(row, other), outcome(row))
                    self.assertEqual([[5], files(COMES)], given)

    def test_what_can_not_be_merged(self):
        rows = [FIRST, SECOND + [moved(2, 6)], FIRST]
        given = after_laid(TREE, rows, pull(0, 1), pull(1, 0), pull(0, 2), shown(0), shown(1), shown(2))
        self.assertEqual([[-7]] * 3 + [row_of(row) for row in rows], given)

    def test_pulled_twice(self):
        given = after_laid(TREE, [FIRST, SECOND], pull(0, 1), pull(0, 1), pull(1, 0), shown(0), shown(1))
        self.assertEqual([[5], [-7], [-7], row_of(FIRST + SECOND_BEHIND), row_of(SECOND)], given)

    def test_places_that_get_higher_and_higher(self):
        rows = [[hunk(0, place, [], [60 + place] * 8)] for place in range(4)]
        comes = [60] * 8 + [1] + [61] * 8 + [2] + [62] * 8 + [3] + [63] * 8 + [4, 5]
        behind = [hunk(0, 9 * place, [], [60 + place] * 8) for place in range(4)]
        given = after_laid(TREE, rows, pull(0, 1), pull(0, 2), pull(0, 3), shown(0), outcome(0))
        self.assertEqual([[2], [3], [4], row_of(behind), files({**TREE, 0: comes})], given)


class LongerRow(unittest.TestCase):
    """A row of 12 steps, made by pull: the calls answer of it as of others."""

    ROWS = [[hunk(0, 0, [], [place]) for place in range(8)],
            [hunk(0, 2, [], [60]), hunk(0, 4, [], [61]), added(9), removed(1)],
            [hunk(0, 5, [], [70]), added(8)],
            [hunk(0, 0, [1], []), swap(2, 6, 7)]]
    BEHIND = [hunk(0, 10, [], [60]), hunk(0, 12, [], [61]), added(9), removed(1)]
    COMES = {0: [7, 6, 5, 4, 3, 2, 1, 0, 1, 2, 60, 3, 61, 4, 5], 2: [6, 7], 9: []}

    def given(self, *calls):
        answers = after_laid(TREE, self.ROWS, pull(0, 1), *calls)
        self.assertEqual([12], answers[0])
        return answers[1:]

    def test_shown_and_outcome(self):
        self.assertEqual([row_of(self.ROWS[0] + self.BEHIND), files(self.COMES)], self.given(shown(0), outcome(0)))

    def test_merge_and_sides(self):
        behind = [hunk(0, 15, [], [70]), added(8)]
        comes = {**self.COMES, 0: self.COMES[0] + [70], 8: []}
        row = row_of(self.ROWS[0] + self.BEHIND)
        self.assertEqual(
            [[1] + files(comes)] * 2 + [[1] + row_of(behind) + row, [1] + row + row_of(behind)],
            self.given(merge(0, 2), merge(2, 0), sides(0, 2), sides(2, 0)))

    def test_what_can_not_be_merged(self):
        self.assertEqual([[0], [0], [0], [0, 1], [0]],
                         self.given(merge(0, 3), merge(3, 0), sides(0, 3), merge_all([3, 0]), merge(0, 1)))

    def test_conflicts_and_clean_are_refused(self):
        self.assertEqual([[-6]] * 4, self.given(conflicts(0, 2), conflicts(2, 0), clean(0, 3), clean(3, 0)))

    def test_step_is_refused(self):
        given = self.given(step(0, swap(0, 1, 2)), step(0, added(9)), step(0, []), step(4, []), shown(0))
        self.assertEqual([[-6], [-6], [-1], [-2], row_of(self.ROWS[0] + self.BEHIND)], given)

    def test_pulled_on(self):
        row = row_of(self.ROWS[0] + self.BEHIND + [hunk(0, 15, [], [70]), added(8)])
        given = self.given(pull(0, 2), shown(0), pull(0, 3), pull(0, 1), shown(0))
        self.assertEqual([[14], row, [-7], [-7], row], given)

    def test_it_may_be_the_second_row(self):
        behind = [hunk(0, 0, [], [place]) for place in range(8)] + self.BEHIND
        given = self.given(pull(2, 0), shown(2), pull(3, 2))
        self.assertEqual([[14], row_of(self.ROWS[2] + behind), [-7]], given)

    def test_seven_steps_may_get_one_more(self):
        rows = [[swap(0, 1, 2)] * 6, [added(9)]]
        given = after_laid(TREE, rows, pull(0, 1), step(0, removed(9)), step(0, added(9)), shown(0))
        self.assertEqual([[7], [7], [-6], row_of([swap(0, 1, 2)] * 6 + [added(9), removed(9)])], given)

    def test_eight_steps_may_get_no_more(self):
        given = after_laid(TREE, [[swap(0, 1, 2)] * 7, [added(9)]], pull(0, 1), step(0, removed(9)))
        self.assertEqual([[8], [-6]], given)


class TwentyFour(unittest.TestCase):
    """Both together may have 24 steps."""

    BEFORE = laid(EIGHTS_TREE, *EIGHTS) + [pull(0, 1)]

    def ask_behind(self, *calls):
        return ask(*(self.BEFORE + list(calls)))[len(self.BEFORE) - 1:]

    def test_just_twenty_four(self):
        row = row_of(EIGHTS[0] + EIGHTS[1] + EIGHTS[2])
        given = self.ask_behind(pull(0, 2), shown(0), outcome(0), pull(0, 3), shown(0))
        self.assertEqual([[16], [24], row, files(EIGHTS_TREE), [24], row], given)

    def test_one_more_is_refused(self):
        row = row_of(EIGHTS[0] + EIGHTS[1] + EIGHTS[2])
        given = self.ask_behind(pull(0, 2), step(3, swap(3, 1, 9)), pull(0, 3), pull(3, 0), shown(0), shown(3))
        self.assertEqual([[24], [0], [-6], [-6], row, row_of([swap(3, 1, 9)])], given[1:])

    def test_twenty_five_of_two_rows_that_are_not_full(self):
        given = self.ask_behind(step(3, swap(3, 1, 9)), pull(2, 3), pull(0, 2), pull(2, 0), shown(2))
        self.assertEqual([[0], [9], [-6], [-6], row_of(EIGHTS[2] + [swap(3, 1, 9)])], given[1:])

    def test_what_can_not_be_merged_is_told_first(self):
        given = self.ask_behind(pull(0, 2), pull(0, 1), pull(2, 0), shown(0), shown(2))
        row = row_of(EIGHTS[0] + EIGHTS[1] + EIGHTS[2])
        self.assertEqual([[24], [-7], [-7], row, row_of(EIGHTS[2])], given[1:])

    def test_the_calls_of_such_a_row(self):
        given = self.ask_behind(pull(0, 2), step(3, added(9)), merge(0, 3), sides(3, 0), merge_all([3, 0]),
                                conflicts(0, 3), clean(3, 0), step(0, added(9)))
        comes = [1] + files({**EIGHTS_TREE, 9: []})
        row = row_of(EIGHTS[0] + EIGHTS[1] + EIGHTS[2])
        self.assertEqual([comes, [1] + row + row_of([added(9)]), comes, [-6], [-6], [-6]], given[3:])

    def test_two_such_rows(self):
        given = self.ask_behind(pull(0, 2), pull(1, 0), pull(3, 0), pull(3, 0), merge(0, 3), sides(0, 3))
        self.assertEqual([[24], [-7], [24], [-7], [0], [0]], given[1:])

    def test_an_answer_of_two_rows_of_24_steps(self):
        first = [[hunk(0, 0, [], [50] * 8)] * 8, [hunk(0, 2, [], [51] * 8)] * 8, [hunk(0, 4, [], [52] * 8)] * 8]
        given = after_laid({0: [1, 2, 3, 4, 5]}, first, pull(0, 1), pull(0, 2), pull(3, 0), drop(0), shown(3))
        self.assertEqual([[16], [24], [24], [0]], given[:4])
        self.assertEqual(1 + 24 * 13, len(given[4]))


class Drop(unittest.TestCase):
    def test_the_row_is_empty_and_the_others_stay(self):
        rows = [FIRST, SECOND, [added(9)], [added(8)]]
        for dropped in range(4):
            given = after_laid(TREE, rows, drop(dropped), *[shown(row) for row in range(4)], outcome(dropped))
            shown_rows = [row_of([] if row == dropped else rows[row]) for row in range(4)]
            self.assertEqual([[0]] + shown_rows + [files(TREE)], given)

    def test_an_empty_row(self):
        self.assertEqual([[0], [0], [0]], after_laid(TREE, [FIRST], drop(1), drop(1), shown(1)))

    def test_the_row_begins_anew(self):
        given = after_laid(TREE, [FIRST], drop(0), step(0, moved(5, 6)), step(0, moved(2, 5)), shown(0))
        self.assertEqual([[0], [-4], [0], row_of([moved(2, 5)])], given)

    def test_a_longer_row_begins_anew(self):
        given = ask(*(TwentyFour.BEFORE + [drop(0), shown(0), step(0, added(9)), conflicts(0, 1), merge(0, 1)]))
        self.assertEqual([[0], [0], [0], [0], [1] + files({**EIGHTS_TREE, 9: []})], given[-5:])

    def test_what_was_pulled_stays_where_it_is(self):
        given = after_laid(TREE, [FIRST, SECOND], pull(0, 1), drop(1), shown(0), shown(1), pull(0, 1), merge(0, 1))
        row = row_of(FIRST + SECOND_BEHIND)
        self.assertEqual([[5], [0], row, [0], [5], [1] + files(COMES)], given)

    def test_what_was_dropped_may_be_pulled_again(self):
        given = after_laid(TREE, [FIRST, SECOND], pull(0, 1), drop(0), pull(0, 1), shown(0), shown(1))
        self.assertEqual([[5], [0], [3], row_of(SECOND), row_of(SECOND)], given)


class Order(unittest.TestCase):
    """Refusals are looked at in the order told."""

    WRONG = (-1, 4, 10 ** 18, -10 ** 18)

    def test_no_tree_first(self):
        for row, other in ((0, 1), (0, 0), (4, 0), (0, -1), (9, 9)):
            self.assertEqual([[-8], [-8]], ask(pull(row, other), drop(row)))

    def test_then_no_row(self):
        for wrong in self.WRONG:
            for row, other in ((wrong, 0), (0, wrong), (wrong, wrong), (wrong, 5)):
                self.assertEqual([-2], last(tree(files(TREE)), pull(row, other)))
            self.assertEqual([-2], last(tree(files(TREE)), drop(wrong)))

    def test_then_the_same_row(self):
        given = ask(*(TwentyFour.BEFORE + [pull(row, row) for row in range(4)]))
        self.assertEqual([[-3]] * 4, given[-4:])

    def test_a_refusal_changes_nothing(self):
        refused = [pull(0, 0), pull(0, 4), pull(-1, 0), drop(4), drop(-1), pull(0, 2)]
        rows = [FIRST, SECOND, [moved(0, 5)]]
        given = after_laid(TREE, rows, *(refused + [shown(row) for row in range(4)]))
        self.assertEqual([[-3], [-2], [-2], [-2], [-2], [-7]] + [row_of(row) for row in rows] + [[0]], given)

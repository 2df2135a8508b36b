"""What holds of conflicts, clean, all and pull, looked at for many drawn rows."""

import itertools
import random
import unittest

from rowsmerged.commuting import commuted
from rowsmerged.merging import answers
from rowsmerged.steps import step_of
from tests.calls import (after_laid, ask, clean, conflicts, drop, laid, merge, merge_all, outcome, pairs_of, pull,
                         row_of, shown, sides, two)
from tests.drawn import TREE, some_row, split_rows, split_tree


def orders(row):
    """Every order that a row can be brought into by commuting steps beside one another, of places and steps."""
    found = [tuple((place, tuple(items)) for place, items in enumerate(row))]
    seen = set(found)
    for order in found:
        for place in range(len(order) - 1):
            one, other = order[place], order[place + 1]
            both = commuted(step_of(list(one[1])), step_of(list(other[1])))
            if both is not None:
                exchanged = ((other[0], tuple(both[0].told())), (one[0], tuple(both[1].told())))
                another = order[:place] + exchanged + order[place + 2:]
                if another not in seen:
                    seen.add(another)
                    found.append(another)
    return found


def needed(found, place):
    """The places of the steps that stand ahead of one in whatever order, its own with them."""
    ahead = set(range(len(found[0])))
    for order in found:
        places = [step[0] for step in order]
        ahead &= set(places[:places.index(place) + 1])
    return ahead


def alone(found, places):
    """The steps of these places as they are without the others: in an order where they stand ahead of these."""
    for order in found:
        if {step[0] for step in order[:len(places)]} == places:
            return [list(step[1]) for step in order[:len(places)]]
    raise AssertionError((found, places))


def by_twos(first, second):
    """The second row behind the first one, each two steps merged by themselves; None if two of them can't be."""
    second_behind = []
    for other in second:
        first_behind = []
        for one in first:
            answer = ask(two(one, other))[0]
            if answer == [0]:
                return None
            parts = split_rows([2] + answer[1:])[0]
            other = parts[0]
            first_behind.append(parts[1])
        second_behind.append(other)
        first = first_behind
    return second_behind


def told_of(first, second):
    """First conflicts, steps that conflict of either row, and what's left of both, the one behind the other."""
    found = [orders(first), orders(second)]
    needs = [[needed(found[side], place) for place in range(len(row))] for side, row in enumerate((first, second))]
    blocks = [[alone(found[side], places) for places in needs[side]] for side in range(2)]
    pairs = [(one, other) for one in range(len(first)) for other in range(len(second))
             if by_twos(blocks[0][one], blocks[1][other]) is None]
    firsts = [pair for pair in pairs
              if not any(other != pair and other[0] in needs[0][pair[0]] and other[1] in needs[1][pair[1]]
                         for other in pairs)]
    taken = [sorted({pair[side] for pair in pairs}) for side in range(2)]
    left = [alone(found[side], set(range(len(found[side][0]))) - set(taken[side])) for side in range(2)]
    return firsts, taken, left[0] + by_twos(left[0], left[1])


def split_pairs(numbers):
    """Pairs as numbers, taken apart."""
    return [(numbers[at], numbers[at + 1]) for at in range(1, len(numbers), 2)]


class ConflictLaws(unittest.TestCase):
    def test_conflicts_and_clean_told_by_all_orders(self):
        chance = random.Random(5)
        counts = {"several first": 0, "not all first": 0, "several out": 0, "from the middle": 0, "none": 0}
        for _ in range(500):
            first = some_row(chance, TREE, 4)
            second = some_row(chance, TREE, 4)
            firsts, taken, left = told_of(first, second)
            given = after_laid(TREE, [first, second, left], conflicts(0, 1), clean(0, 1), outcome(2))
            self.assertEqual(pairs_of(firsts), given[0], (first, second))
            self.assertEqual([len(taken[0])] + taken[0] + [len(taken[1])] + taken[1] + given[2], given[1],
                             (first, second))
            counts["none"] += not firsts
            counts["several first"] += len(firsts) > 1
            counts["not all first"] += {pair[0] for pair in firsts} != set(taken[0])
            counts["several out"] += len(taken[0]) > 1 and len(taken[1]) > 1
            counts["from the middle"] += bool(taken[0]) and taken[0][-1] < len(first) - 1
        self.assertGreater(min(counts.values()), 20, counts)

    def test_either_way_round(self):
        chance = random.Random(6)
        for _ in range(500):
            rows = [some_row(chance, TREE, 8), some_row(chance, TREE, 8)]
            given = after_laid(TREE, rows, conflicts(0, 1), conflicts(1, 0), clean(0, 1), clean(1, 0), merge(0, 1))
            pairs = split_pairs(given[0])
            self.assertEqual(pairs_of(sorted((other, one) for one, other in pairs)), given[1])
            first = 1 + given[2][0]
            second = first + 1 + given[2][first]
            self.assertEqual(given[2][first:second] + given[2][:first] + given[2][second:], given[3])
            self.assertEqual(sorted(set(pairs)), pairs)
            self.assertLessEqual({one for one, other in pairs}, set(given[2][1:first]))
            self.assertEqual([0] if pairs else [1] + given[2][2:], given[4])

    def test_of_rows_that_are_cut_short_the_conflicts_are_those_of_the_steps_there(self):
        chance = random.Random(7)
        for _ in range(150):
            first, second = some_row(chance, TREE, 6), some_row(chance, TREE, 6)
            pairs = split_pairs(after_laid(TREE, [first, second], conflicts(0, 1))[0])
            for end, other_end in itertools.product(range(len(first) + 1), range(len(second) + 1)):
                given = after_laid(TREE, [first[:end], second[:other_end]], conflicts(0, 1))[0]
                self.assertEqual([pair for pair in pairs if pair[0] < end and pair[1] < other_end], split_pairs(given))


class ManyRowsLaws(unittest.TestCase):
    def test_all_over_all_orders(self):
        chance = random.Random(8)
        merged = 0
        for _ in range(500):
            rows = [some_row(chance, TREE, 2) for _ in range(4)]
            given = after_laid(TREE, rows, *[merge_all(order) for order in itertools.permutations(range(4))])
            if given[0][0] == 1:
                self.assertEqual([given[0]] * 24, given, rows)
                merged += sum(len(row) > 0 for row in rows) > 2
            else:
                self.assertEqual({0}, {answer[0] for answer in given}, rows)
        self.assertGreater(merged, 20)

    def test_all_of_two_rows_is_merge_and_the_place_told_is_the_first_one(self):
        chance = random.Random(9)
        for _ in range(300):
            rows = [some_row(chance, TREE, 3) for _ in range(4)]
            ahead = [merge_all(range(count)) for count in range(5)]
            given = after_laid(TREE, rows, merge(0, 1), merge_all([1, 0]), *ahead)
            self.assertEqual(given[0] if given[0][0] == 1 else [0, 1], given[1])
            apart = [count for count in range(5) if given[2 + count][0] == 0]
            for count in apart:
                self.assertEqual([0, apart[0] - 1], given[2 + count])

    def test_pulled_one_after_the_other_it_is_all(self):
        chance = random.Random(10)
        longest = 0
        for _ in range(300):
            rows = [some_row(chance, TREE, 4) for _ in range(4)]
            given = after_laid(TREE, rows, merge_all([0, 1, 2, 3]))
            calls = [call for other in (1, 2, 3) for call in (sides(0, other), pull(0, other), shown(0))]
            pulled = ask(*(laid(TREE, *rows) + calls + [outcome(0)]))[-10:]
            row = rows[0]
            for both, count, whole in zip(pulled[0:9:3], pulled[1:9:3], pulled[2:9:3]):
                if both == [0]:
                    self.assertEqual([-7], count)
                else:
                    row = row + split_rows(both[1:])[0]
                    self.assertEqual([len(row)], count)
                self.assertEqual(row_of(row), whole)
            if [-7] not in pulled:
                self.assertEqual(given[0], [1] + pulled[-1])
            else:
                self.assertEqual([0, pulled[1:9:3].index([-7]) + 1], given[0])
            longest = max(longest, len(row))
        self.assertGreater(longest, 8)

    def test_merge_and_sides_of_longer_rows_either_way_round(self):
        chance = random.Random(11)
        merged = 0
        for _ in range(500):
            rows = [some_row(chance, TREE, 4) for _ in range(4)]
            given = ask(*(laid(TREE, *rows) + [pull(0, 1), pull(2, 3), shown(0), shown(2), merge(0, 2), merge(2, 0),
                                               sides(0, 2), sides(2, 0), outcome(0)]))[-7:]
            self.assertEqual(given[2], given[3])
            self.assertEqual(given[2][0], given[4][0])
            if given[2] != [0]:
                second, first = split_rows(given[4][1:])
                self.assertEqual([1] + row_of(first) + row_of(second), given[5])
                if len(second) <= 8:
                    told = split_tree(given[6])
                    self.assertEqual([given[2][1:]], after_laid(told, [second], outcome(0)))
                merged += len(first) > 1 and len(second) > 1
        self.assertGreater(merged, 20)


class TheSameAgain(unittest.TestCase):
    def test_what_is_handed_in_stays_and_a_second_use_is_as_the_first_one(self):
        chance = random.Random(12)
        for _ in range(100):
            rows = [some_row(chance, TREE, 3) for _ in range(3)]
            calls = laid(TREE, *rows) + [two(one, other) for one in rows[0] for other in rows[1]]
            calls += [conflicts(0, 1), clean(1, 2), merge_all([2, 0, 1]), pull(2, 1), shown(2), drop(1), shown(1)]
            numbers = [number for call in calls for number in call]
            kept = list(numbers)
            given = answers(numbers)
            self.assertEqual(kept, numbers)
            self.assertEqual({int}, {type(number) for number in given})
            self.assertEqual([1, -8, 1, -8, 1, -8], answers(conflicts(0, 1) + merge_all([]) + drop(0)))
            self.assertEqual(given, answers(numbers))
            given.clear()
            self.assertEqual(answers(numbers), answers(kept))

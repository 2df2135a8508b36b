"""The one object of a line: a tree, and four rows of steps from it."""

from rowsmerged.commuting import merged
from rowsmerged.conflicts import conflicting_steps, first_conflicts, left_of
from rowsmerged.steps import row_told, step_of
from rowsmerged.trees import tree_after, tree_of, tree_told

ROWS = 4
MOST_STEPS = 8
MOST_STEPS_PULLED = 24

NOT_WHOLE = -1
NO_ROW = -2
SAME_ROW = -3
NO_FIT = -4
TOO_MANY = -6
NOT_MERGED = -7
NO_TREE = -8


class Store:
    """Each method answers one call: the numbers of its answer, or its refusal alone."""

    def __init__(self):
        self.tree = None
        self.rows = []

    def plant(self, numbers):
        tree = tree_of(numbers)
        if tree is None:
            return [NOT_WHOLE]
        self.tree = tree
        self.rows = [[] for number in range(ROWS)]
        return [len(tree)]

    def refusal_for(self, rows):
        """Why a call that names these rows is refused; 0 if it isn't for them."""
        if self.tree is None:
            return NO_TREE
        if any([not 0 <= row < ROWS for row in rows]):
            return NO_ROW
        return 0

    def refusal_for_two(self, row, other):
        refusal = self.refusal_for([row, other])
        if refusal == 0 and row == other:
            return SAME_ROW
        return refusal

    def refusal_for_conflicts(self, row, other):
        refusal = self.refusal_for_two(row, other)
        if refusal == 0 and max(len(self.rows[row]), len(self.rows[other])) > MOST_STEPS:
            return TOO_MANY
        return refusal

    def tree_of_row(self, row):
        return tree_after(self.tree, self.rows[row])

    def add_step(self, row, numbers):
        refusal = self.refusal_for([row])
        if refusal < 0:
            return [refusal]
        step = step_of(numbers)
        if step is None:
            return [NOT_WHOLE]
        place = len(self.rows[row])
        if place >= MOST_STEPS:
            return [TOO_MANY]
        if not step.fits(self.tree_of_row(row)):
            return [NO_FIT]
        self.rows[row].append(step)
        return [place]

    def shown(self, row):
        refusal = self.refusal_for([row])
        if refusal < 0:
            return [refusal]
        return row_told(self.rows[row])

    def outcome(self, row):
        refusal = self.refusal_for([row])
        if refusal < 0:
            return [refusal]
        return tree_told(self.tree_of_row(row))

    def merge(self, row, other):
        refusal = self.refusal_for_two(row, other)
        if refusal < 0:
            return [refusal]
        both = merged(self.rows[row], self.rows[other])
        if both is None:
            return [0]
        return [1] + tree_told(tree_after(self.tree_of_row(row), both[0]))

    def sides(self, row, other):
        refusal = self.refusal_for_two(row, other)
        if refusal < 0:
            return [refusal]
        both = merged(self.rows[row], self.rows[other])
        if both is None:
            return [0]
        return [1] + row_told(both[0]) + row_told(both[1])

    def conflicts(self, row, other):
        refusal = self.refusal_for_conflicts(row, other)
        if refusal < 0:
            return [refusal]
        pairs = first_conflicts(self.rows[row], self.rows[other])
        answer = [len(pairs)]
        for pair in pairs:
            answer.extend(pair)
        return answer

    def clean(self, row, other):
        refusal = self.refusal_for_conflicts(row, other)
        if refusal < 0:
            return [refusal]
        places = conflicting_steps(self.rows[row], self.rows[other])
        left = left_of(self.rows[row], places[0])
        # What's left conflicts with nothing, so it can always be merged.
        both = merged(left, left_of(self.rows[other], places[1]))
        told = [len(places[0])] + places[0] + [len(places[1])] + places[1]
        return told + tree_told(tree_after(self.tree, left + both[0]))

    def merge_all(self, rows):
        refusal = self.refusal_for(rows)
        if refusal < 0:
            return [refusal]
        if len(set(rows)) < len(rows):
            return [NO_ROW]
        there = []
        for place, row in enumerate(rows):
            both = merged(there, self.rows[row])
            if both is None:
                return [0, place]
            there = there + both[0]
        return [1] + tree_told(tree_after(self.tree, there))

    def pull(self, row, other):
        refusal = self.refusal_for_two(row, other)
        if refusal < 0:
            return [refusal]
        both = merged(self.rows[row], self.rows[other])
        if both is None:
            return [NOT_MERGED]
        pulled = self.rows[row] + both[0]
        if len(pulled) > MOST_STEPS_PULLED:
            return [TOO_MANY]
        self.rows[row] = pulled
        return [len(pulled)]

    def drop(self, row):
        refusal = self.refusal_for([row])
        if refusal < 0:
            return [refusal]
        self.rows[row] = []
        return [0]


def two_merged(numbers, other_numbers):
    """The answer to the one call that needs no object: two steps merged, whether or not they fit a tree."""
    step = step_of(numbers)
    other = step_of(other_numbers)
    if step is None or other is None:
        return [NOT_WHOLE]
    both = merged([step], [other])
    if both is None:
        return [0]
    return [1] + both[0][0].told() + both[1][0].told()

"""The one object of a line: a tree, and four rows of steps from it."""

from rowsmerged.commuting import merged
from rowsmerged.steps import row_told, step_of
from rowsmerged.trees import tree_after, tree_of, tree_told

ROWS = 4
MOST_STEPS = 8

NOT_WHOLE = -1
NO_ROW = -2
SAME_ROW = -3
NO_FIT = -4
TOO_MANY = -6
NO_TREE = -8


class Store:
    """Each method answers one call: the numbers of its answer, or its refusal alone."""

    def __init__(self):
        self.tree = None
        self.rows = []

    def plant(self, numbers):
        tree = tree_of(numbers)
        if tree is None:
            return [NOT_WHOLE]
        self.tree = tree
        self.rows = [[] for number in range(ROWS)]
        return [len(tree)]

    def refusal_for(self, rows):
        """Why a call that names these rows, one or two, is refused; 0 if it isn't for them."""
        if self.tree is None:
            return NO_TREE
        if any([not 0 <= row < ROWS for row in rows]):
            return NO_ROW
        if len(rows) == 2 and rows[0] == rows[1]:
            return SAME_ROW
        return 0

    def tree_of_row(self, row):
        return tree_after(self.tree, self.rows[row])

    def add_step(self, row, numbers):
        refusal = self.refusal_for([row])
        if refusal < 0:
            return [refusal]
        step = step_of(numbers)
        if step is None:
            return [NOT_WHOLE]
        place = len(self.rows[row])
        if place >= MOST_STEPS:
            return [TOO_MANY]
        if not step.fits(self.tree_of_row(row)):
            return [NO_FIT]
        self.rows[row].append(step)
        return [place]

    def shown(self, row):
        refusal = self.refusal_for([row])
        if refusal < 0:
            return [refusal]
        return row_told(self.rows[row])

    def outcome(self, row):
        refusal = self.refusal_for([row])
        if refusal < 0:
            return [refusal]
        return tree_told(self.tree_of_row(row))

    def merge(self, row, other):
        refusal = self.refusal_for([row, other])
        if refusal < 0:
            return [refusal]
        both = merged(self.rows[row], self.rows[other])
        if both is None:
            return [0]
        return [1] + tree_told(tree_after(self.tree_of_row(row), both[0]))

    def sides(self, row, other):
        refusal = self.refusal_for([row, other])
        if refusal < 0:
            return [refusal]
        both = merged(self.rows[row], self.rows[other])
        if both is None:
            return [0]
        return [1] + row_told(both[0]) + row_told(both[1])

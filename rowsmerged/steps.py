"""The five kinds of steps. A step is never changed: what becomes of it is a new one."""

from rowsmerged.reading import are_tokens, is_name, tokens_at

HUNK = 0
SWAP = 1
ADDED = 2
REMOVED = 3
MOVED = 4

TOP_PLACE = 1000
MOST_TOKENS = 8


def with_file(tree, name, tokens):
    """A copy of the tree in which the file of this name has these tokens."""
    result = dict(tree)
    result[name] = tokens
    return result


def without_file(tree, name):
    """A copy of the tree without the file of this name."""
    result = dict(tree)
    result.pop(name)
    return result


class Hunk:
    """In a file, from a place on, the new tokens come in the place of the old ones."""

    def __init__(self, file, place, old, new):
        self.file = file
        self.place = place
        self.old = old
        self.new = new

    def names(self):
        return [self.file]

    def told(self):
        ahead = [HUNK, self.file, self.place]
        return ahead + [len(self.old)] + list(self.old) + [len(self.new)] + list(self.new)

    def turned(self):
        return Hunk(self.file, self.place, self.new, self.old)

    def inside(self, file):
        return Hunk(file, self.place, self.old, self.new)

    def standing_at(self, place):
        return Hunk(self.file, place, self.old, self.new)

    def swapped(self, swap):
        """The hunk with the swap's tokens swapped in its old and in its new ones."""
        return Hunk(self.file, self.place, swap.swapped_in(self.old), swap.swapped_in(self.new))

    def fits(self, tree):
        if self.file not in tree or self.place > len(tree[self.file]):
            return False
        return tree[self.file][self.place:self.place + len(self.old)] == self.old

    def applied(self, tree):
        tokens = tree[self.file]
        behind = tokens[self.place + len(self.old):]
        return with_file(tree, self.file, tokens[:self.place] + self.new + behind)


class Swap:
    """In a file each of two tokens becomes the other one, wherever it stands."""

    def __init__(self, file, one, other):
        self.file = file
        self.one = one
        self.other = other

    def names(self):
        return [self.file]

    def tokens(self):
        return [self.one, self.other]

    def told(self):
        return [SWAP, self.file, self.one, self.other]

    def turned(self):
        return self

    def inside(self, file):
        return Swap(file, self.one, self.other)

    def swapped_in(self, tokens):
        becomes = {self.one: self.other, self.other: self.one}
        return tuple([becomes.get(token, token) for token in tokens])

    def fits(self, tree):
        return self.file in tree

    def applied(self, tree):
        return with_file(tree, self.file, self.swapped_in(tree[self.file]))


class Added:
    """There is an empty file of a name that no file had."""

    def __init__(self, file):
        self.file = file

    def names(self):
        return [self.file]

    def told(self):
        return [ADDED, self.file]

    def turned(self):
        return Removed(self.file)

    def fits(self, tree):
        return self.file not in tree

    def applied(self, tree):
        return with_file(tree, self.file, ())


class Removed:
    """An empty file is gone."""

    def __init__(self, file):
        self.file = file

    def names(self):
        return [self.file]

    def told(self):
        return [REMOVED, self.file]

    def turned(self):
        return Added(self.file)

    def fits(self, tree):
        return self.file in tree and len(tree[self.file]) == 0

    def applied(self, tree):
        return without_file(tree, self.file)


class Moved:
    """A file gets another name, that no file had."""

    def __init__(self, old_name, new_name):
        self.old_name = old_name
        self.new_name = new_name

    def names(self):
        return [self.old_name, self.new_name]

    def told(self):
        return [MOVED, self.old_name, self.new_name]

    def turned(self):
        return Moved(self.new_name, self.old_name)

    def fits(self, tree):
        return self.old_name in tree and self.new_name not in tree

    def applied(self, tree):
        return with_file(without_file(tree, self.old_name), self.new_name, tree[self.old_name])


def hunk_of(numbers):
    if len(numbers) < 3 or not is_name(numbers[1]) or not 0 <= numbers[2] <= TOP_PLACE:
        return None
    old = tokens_at(numbers, 3, MOST_TOKENS)
    if old is None:
        return None
    new = tokens_at(numbers, 4 + len(old), MOST_TOKENS)
    if new is None or len(numbers) != 5 + len(old) + len(new):
        return None
    if len(old) == 0 and len(new) == 0:
        return None
    return Hunk(numbers[1], numbers[2], old, new)


def swap_of(numbers):
    if len(numbers) != 4 or not is_name(numbers[1]) or not are_tokens(numbers[2:]):
        return None
    if numbers[2] == numbers[3]:
        return None
    return Swap(numbers[1], numbers[2], numbers[3])


def added_or_removed_of(numbers):
    if len(numbers) != 2 or not is_name(numbers[1]):
        return None
    if numbers[0] == ADDED:
        return Added(numbers[1])
    return Removed(numbers[1])


def moved_of(numbers):
    if len(numbers) != 3 or not is_name(numbers[1]) or not is_name(numbers[2]):
        return None
    if numbers[1] == numbers[2]:
        return None
    return Moved(numbers[1], numbers[2])


def step_of(numbers):
    """The step that the numbers tell, or None if they aren't whole a step."""
    if len(numbers) == 0:
        return None
    kind = numbers[0]
    if kind == HUNK:
        return hunk_of(numbers)
    if kind == SWAP:
        return swap_of(numbers)
    if kind == ADDED or kind == REMOVED:
        return added_or_removed_of(numbers)
    if kind == MOVED:
        return moved_of(numbers)
    return None


def row_told(row):
    """The row as numbers: how many steps, they."""
    told = [len(row)]
    for step in row:
        told.extend(step.told())
    return told


def row_turned(row):
    """The row turned round: its steps turned round, the last one first."""
    return [step.turned() for step in reversed(row)]

"""Trees: a dict from the names of the files to their tokens, as tuples."""

from rowsmerged.reading import is_name, tokens_at

MOST_FILES = 6
MOST_TOKENS = 12


def tree_of(numbers):
    """The tree that the numbers tell, or None if they aren't whole a tree."""
    if len(numbers) == 0 or not 0 <= numbers[0] <= MOST_FILES:
        return None
    tree = {}
    place = 1
    last = -1
    for file in range(numbers[0]):
        tokens = tokens_at(numbers, place + 1, MOST_TOKENS)
        if tokens is None or not is_name(numbers[place]) or numbers[place] <= last:
            return None
        last = numbers[place]
        tree[last] = tokens
        place += 2 + len(tokens)
    if place != len(numbers):
        return None
    return tree


def tree_told(tree):
    """The tree as numbers."""
    told = [len(tree)]
    for name in sorted(tree):
        told.append(name)
        told.append(len(tree[name]))
        told.extend(tree[name])
    return told


def tree_after(tree, row):
    """The tree that comes of a row whose steps fit, one behind the other."""
    for step in row:
        tree = step.applied(tree)
    return tree

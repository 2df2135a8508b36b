"""Calls as numbers, and the answers taken apart again."""

from rowsmerged.merging import answers


def tree(items):
    return [0, len(items)] + list(items)


def step(row, items):
    return [1, row, len(items)] + list(items)


def shown(row):
    return [2, row]


def outcome(row):
    return [3, row]


def merge(row, other):
    return [4, row, other]


def sides(row, other):
    return [5, row, other]


def conflicts(row, other):
    return [6, row, other]


def clean(row, other):
    return [7, row, other]


def merge_all(rows):
    return [8, len(rows)] + list(rows)


def pull(row, other):
    return [9, row, other]


def drop(row):
    return [10, row]


def two(items, other):
    return [11, len(items)] + list(items) + [len(other)] + list(other)


def hunk(file, place, old, new):
    return [0, file, place, len(old)] + list(old) + [len(new)] + list(new)


def swap(file, one, other):
    return [1, file, one, other]


def added(file):
    return [2, file]


def removed(file):
    return [3, file]


def moved(old_name, new_name):
    return [4, old_name, new_name]


def files(told):
    """A tree as numbers, from a dict of the files' tokens."""
    numbers = [len(told)]
    for name in sorted(told):
        numbers += [name, len(told[name])] + list(told[name])
    return numbers


def row_of(steps):
    """A row as numbers, from steps as numbers."""
    return [len(steps)] + [number for items in steps for number in items]


def pairs_of(pairs):
    """Pairs as numbers."""
    return [len(pairs)] + [number for pair in pairs for number in pair]


def ask(*calls):
    """The answers to these calls on one new object, a list of numbers each."""
    given = answers([number for call in calls for number in call])
    result = []
    place = 0
    while place < len(given):
        end = place + 1 + given[place]
        assert given[place] >= 1 and end <= len(given), given
        result.append(given[place + 1:end])
        place = end
    assert len(result) == len(calls), (result, calls)
    return result


def last(*calls):
    """The answer to the last of these calls."""
    return ask(*calls)[-1]


def laid(told, *rows):
    """The calls that lay a tree, told as a dict, and rows 0, 1 .. of these steps."""
    calls = [tree(files(told))]
    for row, steps in enumerate(rows):
        calls += [step(row, items) for items in steps]
    return calls


def after_laid(told, rows, *calls):
    """The answers to these calls, when a tree and rows are laid; each step of theirs must have been taken."""
    before = laid(told, *rows)
    given = ask(*(before + list(calls)))
    assert all(answer[0] >= 0 for answer in given[:len(before)]), given
    return given[len(before):]

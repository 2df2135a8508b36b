"""Steps and rows drawn from a small tree, and rows as numbers taken apart again."""

from tests.calls import added, hunk, laid, last, moved, outcome, removed, swap

TREE = {0: [1, 2, 1], 1: [], 2: [3]}
NAMES = (0, 1, 2, 3)
TOKENS = (1, 2, 3)


def hunks(told):
    """Hunks of at most two old and two new tokens that fit a tree, told as a dict."""
    news = [[], [1], [3], [2, 3]]
    result = []
    for name, tokens in told.items():
        for place in range(len(tokens) + 1):
            for end in range(place, min(place + 2, len(tokens)) + 1):
                result += [hunk(name, place, tokens[place:end], new) for new in news if new or end > place]
    return result


def fitting(told):
    """Steps of all kinds that fit a tree, told as a dict."""
    free = [name for name in NAMES if name not in told]
    result = hunks(told)
    result += [swap(name, one, other) for name in told for one in TOKENS for other in TOKENS if one != other]
    result += [added(name) for name in free]
    result += [removed(name) for name in told if not told[name]]
    result += [moved(name, new) for name in told for new in free]
    return result


def split_tree(numbers):
    """A tree as numbers, as a dict."""
    told = {}
    place = 1
    while place < len(numbers):
        end = place + 2 + numbers[place + 1]
        told[numbers[place]] = numbers[place + 2:end]
        place = end
    return told


def split_rows(numbers):
    """Rows as numbers, one behind the other, as lists of steps."""
    rows = []
    place = 0
    while place < len(numbers):
        count = numbers[place]
        place += 1
        row = []
        while len(row) < count:
            end = step_end(numbers, place)
            row.append(numbers[place:end])
            place = end
        rows.append(row)
    return rows


def step_end(numbers, place):
    """Where the step that begins at a place ends."""
    if numbers[place] == 0:
        new = place + 4 + numbers[place + 3]
        return new + 1 + numbers[new]
    return place + {1: 4, 2: 2, 3: 2, 4: 3}[numbers[place]]


def some_row(chance, told, most):
    """A row of at most so many steps."""
    row = []
    for _ in range(chance.randint(0, most)):
        row.append(chance.choice(fitting(told)))
        told = split_tree(last(*laid(told, [row[-1]]), outcome(0)))
    return row

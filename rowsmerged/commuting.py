"""Steps commuted, rows brought ahead of one another, rows merged."""

from rowsmerged.steps import Hunk, Moved, Swap, row_turned


def share_one(some, others):
    return any([value in others for value in some])


def is_inside(step):
    return isinstance(step, (Hunk, Swap))


def commuted(step, behind):
    """A step and one behind it, commuted: what the one behind becomes, ahead, and the other; or None."""
    if not share_one(step.names(), behind.names()):
        return (behind, step)
    if is_inside(step) and is_inside(behind):
        return commuted_in_file(step, behind)
    if isinstance(step, Moved) and is_inside(behind) and behind.file == step.new_name:
        return (behind.inside(step.old_name), step)
    if is_inside(step) and isinstance(behind, Moved) and step.file == behind.old_name:
        return (behind, step.inside(behind.new_name))
    return None


def commuted_in_file(step, behind):
    """The same for two steps inside one file."""
    if isinstance(step, Hunk) and isinstance(behind, Hunk):
        return hunks_commuted(step, behind)
    if isinstance(step, Hunk):
        return (behind, step.swapped(behind))
    if isinstance(behind, Hunk):
        return (behind.swapped(step), step)
    if share_one(step.tokens(), behind.tokens()):
        return None
    return (behind, step)


def hunks_commuted(step, behind):
    """The same for two hunks of one file: a token that neither touches must be between them."""
    if behind.place - step.place > len(step.new):
        place = behind.place - len(step.new) + len(step.old)
        return (behind.standing_at(place), step)
    if step.place - behind.place > len(behind.old):
        place = step.place - len(behind.old) + len(behind.new)
        return (behind, step.standing_at(place))
    return None


def step_brought_ahead(row, step):
    """What the step becomes ahead of the row, and the row behind it; None if it can't be brought there."""
    row_behind = []
    for other in reversed(row):
        both = commuted(other, step)
        if both is None:
            return None
        step = both[0]
        row_behind.append(both[1])
    return (step, list(reversed(row_behind)))


def row_without(step, row):
    """What the row behind the step becomes when the step is brought behind it; None if it can't be brought there."""
    row_ahead = []
    for other in row:
        both = commuted(step, other)
        if both is None:
            return None
        row_ahead.append(both[0])
        step = both[1]
    return row_ahead


def row_brought_ahead(row, other):
    """What the other row becomes ahead of the row, and the row behind it; None if it can't be brought there."""
    ahead = []
    for step in other:
        both = step_brought_ahead(row, step)
        if both is None:
            return None
        ahead.append(both[0])
        row = both[1]
    return (ahead, row)


def merged(row, other):
    """Of two rows from one tree, the other one as it is behind the row, and the row behind it; or None."""
    both = row_brought_ahead(row_turned(row), other)
    if both is None:
        return None
    return (both[0], row_turned(both[1]))

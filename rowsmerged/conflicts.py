"""What steps need in their row, which steps of two rows conflict, and what is left without these."""

from rowsmerged.commuting import merged, row_without


class Block:
    """A step behind those that it needs in its row, as they are alone; and the places of them all in the row."""

    def __init__(self, steps, places):
        self.steps = steps
        self.places = places


def block_of(row, place):
    steps = [row[place]]
    places = [place]
    for ahead in range(place - 1, -1, -1):
        steps_alone = row_without(row[ahead], steps)
        if steps_alone is None:
            steps = [row[ahead]] + steps
            places.append(ahead)
        else:
            steps = steps_alone
    return Block(steps, places)


def blocks_of(row):
    return [block_of(row, place) for place in range(len(row))]


def conflicting_pairs(blocks, other_blocks):
    """The places of every two steps that conflict, by the first row's, then by the other one's."""
    pairs = []
    for place, block in enumerate(blocks):
        for other_place, other_block in enumerate(other_blocks):
            if merged(block.steps, other_block.steps) is None:
                pairs.append((place, other_place))
    return pairs


def first_conflicts(row, other):
    """The pairs that conflict alone among the one step with what it needs and the other one with what that needs."""
    blocks = blocks_of(row)
    other_blocks = blocks_of(other)
    pairs = conflicting_pairs(blocks, other_blocks)
    result = []
    for pair in pairs:
        places = blocks[pair[0]].places
        other_places = other_blocks[pair[1]].places
        # The pair itself is always one of these.
        if len([one for one in pairs if one[0] in places and one[1] in other_places]) == 1:
            result.append(pair)
    return result


def conflicting_steps(row, other):
    """The places in the row, and in the other one, of the steps that conflict with some of the other's, rising."""
    pairs = conflicting_pairs(blocks_of(row), blocks_of(other))
    return (sorted(set([pair[0] for pair in pairs])), sorted(set([pair[1] for pair in pairs])))


def left_of(row, places):
    """What is left of the row without the conflicting steps, that are told by their places, rising."""
    # What needs a conflicting step conflicts too and is out before it, so each can be brought behind all after it.
    for place in reversed(places):
        row = row[:place] + row_without(row[place], row[place + 1:])
    return row

"""Calls on one object, handed in and answered as whole numbers."""

from rowsmerged.store import Store, two_merged

TREE = 0
STEP = 1
SHOWN = 2
OUTCOME = 3
MERGE = 4
SIDES = 5
CONFLICTS = 6
CLEAN = 7
ALL = 8
PULL = 9
DROP = 10
TWO = 11


class NoSuchCall(Exception):
    """A call is asked for that this program doesn't have."""


class Reader:
    """Goes through a list of numbers from its beginning on."""

    def __init__(self, numbers):
        self.numbers = numbers
        self.place = 0

    def has_more(self):
        return self.place < len(self.numbers)

    def number(self):
        """The number that comes now."""
        self.place += 1
        return self.numbers[self.place - 1]

    def run(self):
        """The numbers that come now, behind how many they are."""
        count = self.number()
        self.place += count
        return self.numbers[self.place - count:self.place]


def answer_of_one_row(store, call, row):
    if call == SHOWN:
        return store.shown(row)
    if call == OUTCOME:
        return store.outcome(row)
    return store.drop(row)


def answer_of_two_rows(store, call, row, other):
    if call == MERGE:
        return store.merge(row, other)
    if call == SIDES:
        return store.sides(row, other)
    if call == CONFLICTS:
        return store.conflicts(row, other)
    if call == CLEAN:
        return store.clean(row, other)
    return store.pull(row, other)


def answer_now(store, reader):
    """The answer to the call that comes now, without how many numbers it has."""
    call = reader.number()
    if call == TREE:
        return store.plant(reader.run())
    if call == STEP:
        row = reader.number()
        return store.add_step(row, reader.run())
    if call == ALL:
        return store.merge_all(reader.run())
    if call == TWO:
        numbers = reader.run()
        return two_merged(numbers, reader.run())
    if call in (SHOWN, OUTCOME, DROP):
        return answer_of_one_row(store, call, reader.number())
    if call in (MERGE, SIDES, CONFLICTS, CLEAN, PULL):
        row = reader.number()
        return answer_of_two_rows(store, call, row, reader.number())
    raise NoSuchCall(f"no call {call}")


def answers(calls):
    """The answers to the calls, in order: of each how many numbers, then they."""
    store = Store()
    reader = Reader(calls)
    given = []
    while reader.has_more():
        answer = answer_now(store, reader)
        given.append(len(answer))
        given.extend(answer)
    return given

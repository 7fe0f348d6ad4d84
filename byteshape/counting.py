"""Counting the readings and the files of a length."""

from byteshape.limits import require_few
from byteshape.lists import NO_STATES, Lists
from byteshape.machine import LIMIT, Machine
from byteshape.runs import Runs, Tables
from byteshape.spread import Spread


def count_readings(shape, length, *, limit=LIMIT):
    """The number of pairs of a file of this length and a reading of it. Raises TooMany."""
    machine = Machine(shape)
    spread = Spread(machine)
    level = {}
    for state, _ in machine.start():
        level[state] = level.get(state, 0) + 1
    require_few(len(level), limit)
    at = 0
    while level and at < length:
        level = readings_behind(spread, level)
        require_few(len(level), limit)
        at += 1
    return sum([level[state] for state in level if machine.is_done(state)])


def readings_behind(spread, level):
    """For each state one byte behind a level, the number of pairs of a file and a way to this state."""
    found = {}
    for state, before in level.items():
        for _, _, many, states in spread.row(state):
            for behind in states:
                found[behind] = found.get(behind, 0) + before * many
    return found


def count_files(shape, length, *, limit=LIMIT):
    """The number of files of this length that the shape reads. Raises TooMany."""
    tables = Tables()
    lists = Lists(Runs(Machine(shape), tables), tables)
    level = {lists.start(): 1}
    at = 0
    while at < length and list(level) != [NO_STATES]:
        level = files_behind(lists, level)
        require_few(len(level), limit)
        at += 1
    return sum([level[number] for number in level if lists.can_end(number)])


def files_behind(lists, level):
    """For each list one byte behind a level, the number of its files; the number of the empty list is not told."""
    found = {}
    for number, before in level.items():
        if number == NO_STATES:
            found[NO_STATES] = 0
            continue
        for least, _, many in lists.sets(number):
            behind = lists.step(number, least)
            found[behind] = found.get(behind, 0) + before * many
    return found

"""All ways through a shape at once, byte by byte.

A level is a dict: of each state behind some bytes, how many ways that take these bytes are in it.
"""

from byteshape.errors import NotRead
from byteshape.limits import require_few


def first_level(machine, limit):
    """The level before the first byte. Raises TooMany."""
    level = {}
    for state, _ in machine.start():
        level[state] = level.get(state, 0) + 1
    require_few(sum(level.values()), limit)
    return level


def follow(machine, level, data, before, limit):
    """The levels behind each of some bytes that follow a level; `before` bytes came ahead of them.

    Raises NotRead if no way takes all of the bytes, and TooMany, whichever comes first.
    """
    levels = []
    now = level
    for byte in data:
        behind = {}
        for state, many in now.items():
            for entry in machine.step(state, byte):
                behind[entry[0]] = behind.get(entry[0], 0) + many
        if not behind:
            raise NotRead(before + len(levels))
        require_few(sum(behind.values()), limit)
        now = behind
        levels.append(now)
    return levels


def all_levels(machine, data, limit):
    """The levels of a file that is read: before the first byte, and behind each byte.

    Raises TooMany and NotRead.
    """
    first = first_level(machine, limit)
    levels = [first]
    levels.extend(follow(machine, first, data, 0, limit))
    if not any_done(machine, levels[-1]):
        raise NotRead(len(data))
    return levels


def any_done(machine, level):
    """Tells whether some way of a level is done."""
    return any([machine.is_done(state) for state in level])


def leading(machine, levels, data):
    """For each level, a dict of its states from which the file is read to its end."""
    goals = {state: True for state in levels[-1] if machine.is_done(state)}
    found = [goals]
    for at in reversed(range(len(data))):
        goals = states_before(machine, levels[at], data[at], goals)
        found.append(goals)
    found.reverse()
    return found


def states_before(machine, level, byte, goals):
    """Those of the states of a level that lead to one of the goals by this byte."""
    found = {}
    for state in level:
        if any([entry[0] in goals for entry in machine.step(state, byte)]):
            found[state] = True
    return found


def state_levels(machine, data):
    """The levels as far as some way takes the bytes, each a dict of its states; the ways are not counted."""
    levels = [{state: True for state, _ in machine.start()}]
    for byte in data:
        behind = {entry[0]: True for state in levels[-1] for entry in machine.step(state, byte)}
        if not behind:
            break
        levels.append(behind)
    return levels


def reads(machine, data):
    """Tells whether a machine reads a file, however many ways take its bytes."""
    levels = state_levels(machine, data)
    return len(levels) == len(data) + 1 and any_done(machine, levels[-1])


def first_paths(machine, levels, data, most):
    """The paths of the first readings of a file that is read, at most `most` of them, in their order."""
    goals = leading(machine, levels, data)
    rows = [(state, list(choices)) for state, choices in machine.start() if state in goals[0]]
    for byte, goal in zip(data, goals[1:]):
        rows = further_rows(machine, rows[:most], byte, goal)
    return [tuple(path) for _, path in rows[:most]]


def further_rows(machine, rows, byte, goals):
    """The tuples (state, path) behind a byte, in the order of the paths."""
    found = []
    for state, path in rows:
        entries = [entry for entry in machine.step(state, byte) if entry[0] in goals]
        for entry in entries[:-1]:
            found.append((entry[0], path + list(entry[1])))
        # Only the last one goes on with the list itself: copying long paths at each byte takes long.
        path.extend(entries[-1][1])
        found.append((entries[-1][0], path))
    return found

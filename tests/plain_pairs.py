"""Two runs over the same file with the values of a number, told by machines: a plain search to compare with."""


def merged(value, told):
    """The value of a run behind an entry that tells this."""
    return told[0][1] if told else value


def nodes_behind(machines, nodes, byte):
    """The nodes behind a byte: tuples (state, value, state, value). Runs with equal values are left out."""
    found = {}
    for state, value, beside, other in nodes:
        for one in machines[0].step(state, byte):
            for two in machines[1].step(beside, byte):
                values = (merged(value, one[2]), merged(other, two[2]))
                if None not in values:
                    if values[0] == values[1]:
                        continue
                    # Behind both values only that they differ makes a difference.
                    values = (0, 1)
                found[(one[0], values[0], two[0], values[1])] = True
    return found


def first_difference(machines, most):
    """The first file that two machines read with different values, or None; "many" if there are too many nodes."""
    starts = [[entry[0] for entry in machine.start()] for machine in machines]
    seen = {(one, None, two, None): True for one in starts[0] for two in starts[1]}
    level = [([], list(seen))]
    while level:
        for file, nodes in level:
            if any(machines[0].is_done(one) and machines[1].is_done(two) and value != other for one, value, two, other in nodes):
                return file
        longer = []
        for file, nodes in level:
            for byte in range(256):
                fresh = [node for node in nodes_behind(machines, nodes, byte) if node not in seen]
                seen.update(dict.fromkeys(fresh, True))
                if fresh:
                    longer.append((file + [byte], fresh))
        level = longer
        if len(seen) > most:
            return "many"
    return None


def values_told(machine, file):
    """The values that a machine tells in the readings of a file, in ascending order."""
    level = {(entry[0], None) for entry in machine.start()}
    for byte in file:
        level = {(entry[0], merged(value, entry[2])) for state, value in level for entry in machine.step(state, byte)}
    return sorted({value for state, value in level if machine.is_done(state)})

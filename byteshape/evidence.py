"""What the lines of certificates stand for: runs that have read the bytes of a file, side by side.

A node tells where the runs are. `Pairs` and `Beside` have the same methods. `start()` and `step(node, byte)`
give the tuples (node, choices) before the first byte and behind a byte; the choices are those of each run
since the last byte. `bytes_of(nodes)` gives the least byte of each set of bytes that lead from some nodes, to
which the same file leads, to the same ones. Nodes that are alike have the same `alike(node)`, which is one
of them. `is_goal(node)` tells whether a file that leads there shows what a certificate of several lines
denies. `node_of(row)` gives the node of the runs that a row of a certificate stands for, or None.
"""

from byteshape.lists import Lists
from byteshape.machine import Machine
from byteshape.runs import Runs, Tables


def along(entries, path, met):
    """The entry that takes the choices of a path from this place on, a tuple (state, place behind), or None."""
    for state, choices in entries:
        behind = met + len(choices)
        if path[met:behind] == choices:
            return (state, behind)
    return None


def run_to(runs, file, path):
    """The state of the run that has read a file with the choices of a path, or None."""
    found = along(runs.start(), path, 0)
    for byte in file:
        if found is None:
            return None
        state, met = found
        found = along(runs.step(state, byte), path, met)
    if found is None or found[1] < len(path):
        return None
    return found[0]


class Pairs:
    """Pairs of runs of one machine. A node is (state,) until the pair parts, and (state, state) behind that."""

    def __init__(self, shape):
        self._tables = Tables()
        self._runs = Runs(Machine(shape), self._tables)

    def start(self):
        """The nodes before the first byte."""
        return self._from_one(self._runs.start())

    def step(self, node, byte):
        """The nodes behind a byte."""
        if len(node) == 1:
            return self._from_one(self._runs.step(node[0], byte))
        others = self._runs.step(node[1], byte)
        return [((state, beside), (choices, choices_beside))
                for state, choices in self._runs.step(node[0], byte) for beside, choices_beside in others]

    def bytes_of(self, nodes):
        """The bytes that lead to different nodes."""
        return self._tables.least_bytes([self._runs.table(state) for node in nodes for state in node])

    def alike(self, node):
        """The node with the runs in the order of their states."""
        return tuple(sorted(node))

    def is_goal(self, node):
        """Tells whether the file is read in two ways."""
        return len(node) == 2 and self._runs.is_done(node[0]) and self._runs.is_done(node[1])

    def node_of(self, row):
        """The node of a row, or None."""
        file, paths = row
        state = run_to(self._runs, file, paths[0])
        if paths[0] == paths[1]:
            return None if state is None else (state,)
        beside = run_to(self._runs, file, paths[1])
        return None if state is None or beside is None else (state, beside)

    def _from_one(self, entries):
        """Each entry with itself, and each two of them."""
        found = []
        for at, (state, choices) in enumerate(entries):
            found.append(((state,), (choices, choices)))
            for beside, choices_beside in entries[at + 1:]:
                found.append(((state, beside), (choices, choices_beside)))
        return found


class Beside:
    """Runs of a machine of `one` beside the lists of the states of `other`. A node is (state, list)."""

    def __init__(self, one, other):
        self._tables = Tables()
        self._runs = Runs(Machine(one), self._tables)
        self._lists = Lists(Runs(Machine(other), self._tables), self._tables)

    def start(self):
        """The nodes before the first byte."""
        beside = self._lists.start()
        return [((state, beside), (choices,)) for state, choices in self._runs.start()]

    def step(self, node, byte):
        """The nodes behind a byte."""
        entries = self._runs.step(node[0], byte)
        beside = self._lists.step(node[1], byte) if entries else node[1]
        return [((state, beside), (choices,)) for state, choices in entries]

    def bytes_of(self, nodes):
        """The bytes that lead to different nodes."""
        found = [self._runs.table(state) for state, _ in nodes]
        # Nodes to which the same file leads stand beside the same list.
        return self._tables.least_bytes(found + self._lists.tables(nodes[0][1]))

    def alike(self, node):
        """The node itself: no others are alike."""
        return node

    def is_goal(self, node):
        """Tells whether only `one` reads the file."""
        return self._runs.is_done(node[0]) and not self._lists.can_end(node[1])

    def node_of(self, row):
        """The node of a row, or None."""
        file, paths = row
        state = run_to(self._runs, file, paths[0])
        if state is None:
            return None
        beside = self._lists.start()
        for byte in file:
            beside = self._lists.step(beside, byte)
        return (state, beside)


class Finder:
    """The plan of a search for a file that leads to a goal. Nodes that are alike are one node."""

    def __init__(self, evidence):
        self._evidence = evidence

    def begin(self):
        """The nodes before the first byte."""
        return [self._evidence.alike(node) for node, _ in self._evidence.start()]

    def further(self, node, byte):
        """The nodes behind a byte."""
        return [self._evidence.alike(behind) for behind, _ in self._evidence.step(node, byte)]

    def bytes_of(self, nodes):
        """The bytes that lead to different nodes."""
        return self._evidence.bytes_of(nodes)

    def is_goal(self, node):
        """Tells whether this node is searched."""
        return self._evidence.is_goal(node)


def rows_found(evidence):
    """One row for each node that is come to, but for those that are like another one."""
    known = {}
    found = []
    for node, choices in evidence.start():
        if evidence.alike(node) not in known:
            known[evidence.alike(node)] = True
            found.append((node, [], list(choices)))
    at = 0
    while at < len(found):
        here, file, paths = found[at]
        at += 1
        for byte in evidence.bytes_of([here]):
            for node, choices in evidence.step(here, byte):
                if evidence.alike(node) not in known:
                    known[evidence.alike(node)] = True
                    found.append((node, file + [byte], [path + more for path, more in zip(paths, choices)]))
    return [(file, paths) for _, file, paths in found]


def is_closed(evidence, rows):
    """Tells whether the rows stand for nodes, none of them a goal, and all nodes come to are like one of these."""
    nodes = {}
    for row in rows:
        node = evidence.node_of(row)
        if node is None or evidence.is_goal(node):
            return False
        nodes[evidence.alike(node)] = True
    if any([evidence.alike(node) not in nodes for node, _ in evidence.start()]):
        return False
    for node in nodes:
        for byte in evidence.bytes_of([node]):
            if any([evidence.alike(behind) not in nodes for behind, _ in evidence.step(node, byte)]):
                return False
    return True

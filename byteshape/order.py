"""Searching in the order of files: nodes to which files lead, and the first file to each of them.

What a node is, is told by a plan, an object with these methods: `begin()` gives the nodes before the
first byte, and `further(node, byte)` those behind a byte that follows a node. `bytes_of(nodes)` gives
the bytes to try behind some nodes, in ascending order: a byte that is left out leads only to nodes to
which a smaller one leads. A plan that searches for something has `is_goal(node)`, too.
"""

from byteshape.limits import require_few


def file_of(steps, group):
    """The file of a group; `steps` has for each group the number of the group one byte before, and this byte."""
    found = []
    while group > 0:
        group, byte = steps[group]
        found.append(byte)
    found.reverse()
    return found


class Order:
    """The nodes of a plan, found length by length in the order of their first files.

    Nodes with the same first file form a group. `group_of` has the number of the group of each node,
    `groups` the tuples (number, nodes) of the groups whose files have the present length.
    """

    def __init__(self, plan, limit):
        self.group_of = {}
        self.steps = []
        self._plan = plan
        self._limit = limit
        self.groups = self._added(plan.begin(), 0, 0)

    def go_on(self):
        """Finds the nodes of the next length. Raises TooMany."""
        found = []
        for number, nodes in self.groups:
            for byte in self._plan.bytes_of(nodes):
                behind = [one for node in nodes for one in self._plan.further(node, byte)]
                found.extend(self._added(behind, number, byte))
        self.groups = found

    def go_through(self):
        """Finds all nodes. Raises TooMany."""
        while self.groups:
            self.go_on()

    def goal_file(self):
        """The first file of the present length that leads to a goal, or None."""
        for number, nodes in self.groups:
            if any([self._plan.is_goal(node) for node in nodes]):
                return file_of(self.steps, number)
        return None

    def _added(self, nodes, before, byte):
        """Adds those nodes that were not found before; returns the list of their group, or of none."""
        number = len(self.steps)
        fresh = []
        for node in nodes:
            if node not in self.group_of:
                self.group_of[node] = number
                fresh.append(node)
        require_few(len(self.group_of), self._limit)
        if not fresh:
            return []
        self.steps.append((before, byte))
        return [(number, fresh)]


def first_goal_file(orders):
    """The first file that leads to a goal in one of some orders, or None. Raises TooMany.

    All of them go on together, and no file is looked at that is longer than the first one.
    """
    while any([len(one.groups) > 0 for one in orders]):
        files = [one.goal_file() for one in orders]
        found = [file for file in files if file is not None]
        if found:
            return min(found)
        for order in orders:
            order.go_on()
    return None

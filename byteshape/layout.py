"""Where the items of a shape stand, and what of the bytes ahead is still asked for behind each of them.

Items are told by their numbers: their places in the order of the shape's names. So the items that
stand in the blocks of an item follow it directly. Blocks are told by numbers, too; the outermost list
has the number 0.
"""

from byteshape.items import blocks_of, number_used

OUTERMOST = 0
NOBODY = -1


class Layout:
    """The places of the items of a shape."""

    def __init__(self, shape):
        self.parts = []
        # Of each item: its block, its place there, its own blocks, the number behind all within it,
        # and the repeats around it, the outermost one first.
        self.block = []
        self.spot = []
        self.within = []
        self.behind = []
        self.repeats = []
        # Of each block: its items, and the item whose block it is.
        self.blocks = []
        self.owner = []
        self._number_of = {}
        self._add_block(shape.parts, NOBODY, ())
        self.used = [self._number_of.get(number_used(part), NOBODY) for part in self.parts]
        self.cases = self._case_values()
        self._asked = {}

    def _add_block(self, items, owner, repeats):
        number = len(self.blocks)
        self.blocks.append([])
        self.owner.append(owner)
        for item in items:
            self._add_item(item, number, repeats)
        return number

    def _add_item(self, item, block, repeats):
        at = len(self.parts)
        self.parts.append(item)
        self.block.append(block)
        self.spot.append(len(self.blocks[block]))
        self.blocks[block].append(at)
        self.repeats.append(repeats)
        self._number_of[item[1]] = at
        self.within.append(())
        self.behind.append(at + 1)
        inner = repeats + (at,) if item[0] == "repeat" else repeats
        self.within[at] = tuple([self._add_block(block_items, at, inner) for block_items in blocks_of(item)])
        self.behind[at] = len(self.parts)

    def _case_values(self):
        """For each number that only switches use, the values of all their cases."""
        found = {}
        for at, used in enumerate(self.used):
            if self.parts[at][0] == "switch":
                values = found.setdefault(used, {})
                for value, _ in self.parts[at][3]:
                    values[value] = True
        for at, used in enumerate(self.used):
            if used in found and self.parts[at][0] != "switch":
                del found[used]
        return found

    def is_used(self, at):
        """Tells whether some item uses this number."""
        return at in self.used

    def asked_behind(self, at, more):
        """What is still asked for behind an item: the numbers, the modulus and the multiple.

        `more` tells of each repeat around the item whether further rounds follow. The modulus is
        that of the check, the multiple the greatest one of the pads; they are 0 if none can begin.
        """
        key = (at, more)
        if key not in self._asked:
            later = self._later(at)
            again = self._again(at, more)
            numbers = self._numbers_asked(at, later, more)
            checks = [self.parts[k][2] for k in later + again if self.parts[k][0] == "check"]
            pads = [self.parts[k][2] for k in later + again if self.parts[k][0] == "pad"]
            self._asked[key] = (numbers, max(checks, default=0), max(pads, default=0))
        return self._asked[key]

    def _around(self, at):
        """The item and the items in whose blocks it stands, the innermost one first."""
        found = []
        while at != NOBODY:
            found.append(at)
            at = self.owner[self.block[at]]
        return found

    def _later(self, at):
        """The items that come later in the block of the item and in the blocks around."""
        found = []
        for one in self._around(at):
            last = self.blocks[self.block[one]][-1]
            found.extend(list(range(self.behind[one], self.behind[last])))
        return found

    def _again(self, at, more):
        """The items of the repeats around of which further rounds follow."""
        found = []
        for repeat, follows in zip(self.repeats[at], more):
            if follows:
                found.extend(list(range(repeat + 1, self.behind[repeat])))
        return found

    def _numbers_asked(self, at, later, more):
        asked = {}
        for k in later:
            asked[self.used[k]] = True
        for repeat, follows in zip(self.repeats[at], more):
            for k in range(repeat + 1, self.behind[repeat]):
                # A number within the block is read again before the next round uses it.
                if follows and self.used[k] < repeat:
                    asked[self.used[k]] = True
        # A number ahead that an item behind uses is visible to the item between, and was read.
        return tuple([k for k in range(at) if k in asked])

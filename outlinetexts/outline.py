"""An outline, as a row of nodes."""

from outlinetexts.faults import TOO_DEEP, TOO_MANY_NODES, Fault
from outlinetexts.signs import DEEPEST, MOST_NODES


class Nodes:
    """Each node's text, a list of bytes, and its depth."""

    def __init__(self):
        self.texts = []
        self.depths = []

    def size(self):
        """How many nodes there are."""
        return len(self.depths)

    def add_last(self, text, depth):
        """Puts a node behind all others."""
        self.texts.append(text)
        self.depths.append(depth)

    def parent_of(self, i):
        """The number of node i's parent plus 1, or 0 if it has none."""
        for j in range(i - 1, -1, -1):
            if self.depths[j] == self.depths[i] - 1:
                return j + 1
        return 0

    def block_of(self, i):
        """How many nodes the block of node i has."""
        end = i + 1
        while end < self.size() and self.depths[end] > self.depths[i]:
            end += 1
        return end - i - 1


def check_room(nodes, depth, place):
    """Raises a fault at the place if one more node, of that depth, can't be."""
    if nodes.size() >= MOST_NODES:
        raise Fault(TOO_MANY_NODES, place)
    if depth > DEEPEST:
        raise Fault(TOO_DEEP, place)

"""An outline, as a row of nodes."""

from outlinetexts.faults import TOO_DEEP, TOO_MANY_NODES, Fault
from outlinetexts.signs import DEEPEST, MOST_NODES


class Nodes:
    """Each node's text, a list of bytes, and its depth."""

    def __init__(self):
        self.texts = []
        self.depths = []

    def size(self):
        """How many nodes there are."""
        return len(self.depths)

    def add_last(self, text, depth):
        """Puts a node behind all others."""
        self.put_at(self.size(), text, depth)

    def put_at(self, place, text, depth):
        """Puts a node before the one that has this number now."""
        self.texts.insert(place, text)
        self.depths.insert(place, depth)

    def take_out(self, start, end):
        """Takes the nodes from start up to end out."""
        self.texts = self.texts[:start] + self.texts[end:]
        self.depths = self.depths[:start] + self.depths[end:]

    def move_behind(self, start, middle, end):
        """Puts the nodes from start up to middle behind those from there up to end."""
        self.texts = self.texts[:start] + self.texts[middle:end] + self.texts[start:middle] + self.texts[end:]
        self.depths = self.depths[:start] + self.depths[middle:end] + self.depths[start:middle] + self.depths[end:]

    def shift(self, start, end, by):
        """Makes the nodes from start up to end so much deeper."""
        for i in range(start, end):
            self.depths[i] += by

    def parent_of(self, i):
        """The number of node i's parent plus 1, or 0 if it has none."""
        for j in range(i - 1, -1, -1):
            if self.depths[j] == self.depths[i] - 1:
                return j + 1
        return 0

    def depth_below(self, parent):
        """The depth of a child of this parent: a node's number plus 1, or 0 for none."""
        return self.depths[parent - 1] + 1 if parent > 0 else 0

    def path_to(self, i):
        """The nodes from the one without a parent down to node i."""
        path = [i]
        parent = self.parent_of(i)
        while parent > 0:
            path = [parent - 1] + path
            parent = self.parent_of(parent - 1)
        return path

    def block_end(self, i):
        """Where the block of node i ends: the number of the node after it, if there's one."""
        end = i + 1
        while end < self.size() and self.depths[end] > self.depths[i]:
            end += 1
        return end


def check_room(nodes, depth, place):
    """Raises a fault at the place if one more node, of that depth, can't be."""
    if nodes.size() >= MOST_NODES:
        raise Fault(TOO_MANY_NODES, place)
    if depth > DEEPEST:
        raise Fault(TOO_DEEP, place)

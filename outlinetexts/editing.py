"""Changing an outline: a node is added, cut, moved in or moved out; what can't be is refused, and changes nothing."""

from outlinetexts.refusals import NO_NODE, NO_ROOM, NO_TEXT, NOT_ALLOWED
from outlinetexts.signs import DEEPEST, LONGEST_TEXT, MOST_NODES, is_control


def add_child(nodes, parent, text):
    """Puts a new node last among the parent's children, and answers its number; parent is a number plus 1, or 0."""
    if parent > nodes.size():
        return NO_NODE
    if not is_text(text):
        return NO_TEXT
    depth = nodes.depth_below(parent)
    if nodes.size() >= MOST_NODES or depth > DEEPEST:
        return NO_ROOM
    place = nodes.block_end(parent - 1) if parent > 0 else nodes.size()
    nodes.put_at(place, text, depth)
    return place


def is_text(text):
    """Whether these bytes can be a node's text."""
    if len(text) == 0 or len(text) > LONGEST_TEXT:
        return False
    return not any([is_control(byte) for byte in text])


def cut_out(nodes, i):
    """Takes node i and its block out, and answers how many they were."""
    end = nodes.block_end(i)
    nodes.take_out(i, end)
    return end - i


def move_in(nodes, i):
    """Makes node i, with its block, a child of the one before it that has the same parent, and answers its number."""
    # A first child stands right behind its parent, so its own number is its parent's plus 1; the first node of all
    # has the number 0, and 0 for its parent. No other node's number is the same as what tells its parent.
    if nodes.parent_of(i) == i:
        return NOT_ALLOWED
    end = nodes.block_end(i)
    if max(nodes.depths[i:end]) >= DEEPEST:
        return NO_ROOM
    # The one before it, with its block, ends right before node i: its last child stands where node i is.
    nodes.shift(i, end, 1)
    return i


def move_out(nodes, i):
    """Makes node i, with its block, the next one after its parent, and answers its new number."""
    parent = nodes.parent_of(i)
    if parent == 0:
        return NOT_ALLOWED
    end = nodes.block_end(i)
    parent_end = nodes.block_end(parent - 1)
    nodes.shift(i, end, -1)
    nodes.move_behind(i, end, parent_end)
    return i + parent_end - end

"""Reading form 1: an outline that is held by braces."""

from outlinetexts.faults import NOT_CLOSED, NOTHING_TO_CLOSE, NOTHING_TO_HOLD, Fault
from outlinetexts.outline import Nodes, check_room
from outlinetexts.parting import is_plain, node_text, part_units, trimmed
from outlinetexts.signs import CLOSER, LINE_FEED, OPENER, RETURN, SEMICOLON, SPACE


def read_braces(text):
    """The nodes that a text in braces says; raises its first fault."""
    nodes = Nodes()
    openers = []
    piece = []
    for unit in part_units(text, 0, len(text)):
        if is_plain(unit, (SEMICOLON, OPENER, CLOSER)):
            gave_node = take_piece(nodes, len(openers), piece)
            take_mark(openers, unit, gave_node)
            piece = []
        else:
            piece.append(unit)
    take_piece(nodes, len(openers), piece)
    if len(openers) > 0:
        raise Fault(NOT_CLOSED, openers[-1])
    return nodes


def take_piece(nodes, depth, piece):
    """Adds the node of a piece; answers whether it gave one."""
    units = trimmed(piece, (SPACE, LINE_FEED, RETURN))
    if len(units) == 0:
        return False
    check_room(nodes, depth, units[0].place)
    nodes.add_last(node_text(units, (LINE_FEED, RETURN)), depth)
    return True


def take_mark(openers, unit, gave_node):
    """Looks at what ended a piece; openers holds the places of the braces that are still to be closed."""
    if unit.byte == OPENER:
        if not gave_node:
            raise Fault(NOTHING_TO_HOLD, unit.place)
        openers.append(unit.place)
    if unit.byte == CLOSER:
        if len(openers) == 0:
            raise Fault(NOTHING_TO_CLOSE, unit.place)
        openers.pop()

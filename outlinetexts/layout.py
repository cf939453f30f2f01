"""Reading form 0: an outline that is laid out by indentation."""

from outlinetexts.faults import OTHER_COLUMN, Fault
from outlinetexts.outline import Nodes, check_room
from outlinetexts.parting import is_plain, node_text, part_units, trimmed
from outlinetexts.signs import HASH, LINE_FEED, RETURN, SPACE


def read_layout(text):
    """The nodes that a laid out text says; raises its first fault."""
    nodes = Nodes()
    columns = []
    start = 0
    while start <= len(text):
        end = line_end(text, start)
        take_line(nodes, columns, line_units(text, start, end), start)
        start = end + 1
    return nodes


def line_end(text, start):
    """Where the line that begins at start ends."""
    end = start
    while end < len(text) and text[end] != LINE_FEED:
        end += 1
    return end


def line_units(text, start, end):
    """The units of a line between its spaces at the beginning and those at the end."""
    if end > start and text[end - 1] == RETURN:
        end -= 1
    return trimmed(part_units(text, start, end), (SPACE,))


def take_line(nodes, columns, units, start):
    """Adds the node of a line that begins at start, and the line's column, unless it's passed over."""
    if len(units) == 0 or is_plain(units[0], (HASH,)):
        return
    place = units[0].place
    column = place - start
    parent = parent_line(columns, column)
    check_column(columns, parent, column, place)
    depth = nodes.depth_below(parent)
    check_room(nodes, depth, place)
    nodes.add_last(node_text(units, ()), depth)
    columns.append(column)


def parent_line(columns, column):
    """The number of the last line whose column is less plus 1, or 0 if there's none."""
    for j in range(len(columns) - 1, -1, -1):
        if columns[j] < column:
            return j + 1
    return 0


def check_column(columns, parent, column, place):
    """Raises a fault at the place if a line with the same parent has another column."""
    # The line right after a parent is the first one below it, and without a parent the very first line is:
    # columns[parent] either way. The others with that parent were held to its column when they came.
    if parent < len(columns) and columns[parent] != column:
        raise Fault(OTHER_COLUMN, place)

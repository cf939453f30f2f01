"""The units that both forms are read by."""

from outlinetexts.faults import CONTROL_BYTE, LINE_END_INSIDE, TOO_LONG, WRONG_BACKSLASH, Fault
from outlinetexts.signs import BACKSLASH, CLOSER, HASH, LONGEST_TEXT, OPENER, SEMICOLON, SPACE, is_control

NO_BYTE = -1


class Unit:
    """Where a unit begins, the byte it stands for, and whether it stands there without a backslash."""

    def __init__(self, place, byte, plain):
        self.place = place
        self.byte = byte
        self.plain = plain


def part_units(text, start, end):
    """The units of the bytes from start up to end."""
    units = []
    at = start
    while at < end:
        if text[at] == BACKSLASH:
            units.append(backslash_unit(text, at, end))
            at += 2
        else:
            units.append(Unit(at, text[at], True))
            at += 1
    return units


def backslash_unit(text, at, end):
    """The unit of the backslash at a place; NO_BYTE if it stands for nothing."""
    if at + 1 < end and text[at + 1] in (BACKSLASH, HASH, SEMICOLON, OPENER, CLOSER, SPACE):
        return Unit(at, text[at + 1], False)
    return Unit(at, NO_BYTE, False)


def is_plain(unit, wanted):
    """Whether a unit is one of these bytes with no backslash before it."""
    return unit.plain and unit.byte in wanted


def trimmed(units, blanks):
    """The units without the plain blanks at the beginning and the end."""
    start = 0
    while start < len(units) and is_plain(units[start], blanks):
        start += 1
    end = len(units)
    while end > start and is_plain(units[end - 1], blanks):
        end -= 1
    return units[start:end]


def node_text(units, line_ends):
    """The bytes that a node's units stand for; line_ends are those that are told as such inside a text."""
    for unit in units:
        check_unit(unit, line_ends)
    if len(units) > LONGEST_TEXT:
        raise Fault(TOO_LONG, units[0].place)
    return [unit.byte for unit in units]


def check_unit(unit, line_ends):
    """Raises the fault that the unit has by itself."""
    if unit.byte == NO_BYTE:
        raise Fault(WRONG_BACKSLASH, unit.place)
    if unit.byte in line_ends:
        raise Fault(LINE_END_INSIDE, unit.place)
    if is_control(unit.byte):
        raise Fault(CONTROL_BYTE, unit.place)

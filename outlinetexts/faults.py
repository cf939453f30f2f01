"""What a text that is no outline is refused with."""

CONTROL_BYTE = 1
WRONG_BACKSLASH = 2
OTHER_COLUMN = 3
TOO_MANY_NODES = 4
TOO_DEEP = 5
TOO_LONG = 6
NOTHING_TO_HOLD = 7
NOTHING_TO_CLOSE = 8
NOT_CLOSED = 9
LINE_END_INSIDE = 10


class Fault(Exception):
    """The first fault of a text: its number, and the place in the text, counted from 0."""

    def __init__(self, number, place):
        self.number = number
        self.place = place

"""The bytes that have a meaning of their own, the numbers of the forms, and the limits."""

LINE_FEED = 10
RETURN = 13
SPACE = 32
HASH = 35
SEMICOLON = 59
BACKSLASH = 92
OPENER = 123
CLOSER = 125
DELETE = 127

FORM_LAID_OUT = 0
FORM_BRACES = 1

MOST_NODES = 64
DEEPEST = 15
LONGEST_TEXT = 64


def is_control(byte):
    """Whether a byte is one that no text has."""
    return byte < SPACE or byte == DELETE

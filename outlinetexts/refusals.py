"""The numbers that a refused call answers."""

NOT_ALLOWED = -1
NO_NODE = -2
NO_TEXT = -3
NO_ROOM = -4

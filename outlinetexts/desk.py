"""The calls on one outline, and their answers."""

from outlinetexts.braces import read_braces
from outlinetexts.editing import add_child, cut_out, move_in, move_out
from outlinetexts.faults import Fault
from outlinetexts.layout import read_layout
from outlinetexts.outline import Nodes
from outlinetexts.refusals import NO_NODE, NO_TEXT, NOT_ALLOWED
from outlinetexts.signs import FORM_BRACES, FORM_LAID_OUT, LINE_FEED
from outlinetexts.writing import write_braces, write_layout

INIT = 0
READ = 1
WRITE = 2
COUNT = 3
DEPTH = 4
PARENT = 5
BLOCK = 6
PATH = 7
TEXT = 8
FIND = 9
ADD = 10
CUT = 11
MOVE_IN = 12
MOVE_OUT = 13


class UnknownCall(ValueError):
    """A call's number that is none of those above."""

    def __init__(self, number):
        self.number = number


class CallRow:
    """The calls as they stand in the list, and how far they have been taken."""

    def __init__(self, calls):
        self.calls = calls
        self.taken = 0

    def has_more(self):
        """Whether a call is still to be taken."""
        return self.taken < len(self.calls)

    def take_number(self):
        """The next number."""
        number = self.calls[self.taken]
        self.taken += 1
        return number

    def take_text(self):
        """The next row of bytes, which has its length before it."""
        length = self.take_number()
        text = self.calls[self.taken:self.taken + length]
        self.taken += length
        return text


class Desk:
    """The one outline that the calls are about."""

    def __init__(self):
        self.nodes = Nodes()


def answers(calls):
    """For each call how many numbers are answered, and these."""
    row = CallRow(calls)
    desk = Desk()
    answered = []
    while row.has_more():
        answer = answer_call(desk, row)
        answered.append(len(answer))
        answered.extend(answer)
    return answered


def answer_call(desk, row):
    """Takes the next call from the row and answers it."""
    number = row.take_number()
    if number == INIT:
        return answer_init(desk)
    if number == READ:
        form = row.take_number()
        return answer_read(desk, form, row.take_text())
    if number == WRITE:
        form = row.take_number()
        return answer_write(desk.nodes, form, row.take_number())
    if number == COUNT:
        return [desk.nodes.size()]
    if number in (DEPTH, PARENT, BLOCK, PATH, TEXT, CUT, MOVE_IN, MOVE_OUT):
        return answer_about_node(desk.nodes, number, row.take_number())
    if number == FIND:
        parent = row.take_number()
        return answer_find(desk.nodes, parent, row.take_text())
    if number == ADD:
        parent = row.take_number()
        return [add_child(desk.nodes, parent, row.take_text())]
    raise UnknownCall(number)


def answer_init(desk):
    """Lets the outline have no nodes."""
    desk.nodes = Nodes()
    return [0]


def answer_read(desk, form, text):
    """Lets the outline be what the text says, or answers its first fault."""
    if form not in (FORM_LAID_OUT, FORM_BRACES):
        return [NOT_ALLOWED]
    try:
        desk.nodes = read_layout(text) if form == FORM_LAID_OUT else read_braces(text)
    except Fault as fault:
        return [fault.number] + line_and_column(text, fault.place)
    return [0]


def line_and_column(text, place):
    """The line and the column of a place, both counted from 1."""
    line = 1
    column = 1
    for byte in text[:place]:
        column += 1
        if byte == LINE_FEED:
            line += 1
            column = 1
    return [line, column]


def answer_write(nodes, form, step):
    """The outline's bytes, with how many they are before them."""
    if form not in (FORM_LAID_OUT, FORM_BRACES) or step < 1 or step > 8:
        return [NOT_ALLOWED]
    written = write_layout(nodes, step) if form == FORM_LAID_OUT else write_braces(nodes)
    return [len(written)] + written


def answer_about_node(nodes, number, i):
    """What a call about node i alone answers."""
    if i >= nodes.size():
        return [NO_NODE]
    if number == CUT:
        return [cut_out(nodes, i)]
    if number == MOVE_IN:
        return [move_in(nodes, i)]
    if number == MOVE_OUT:
        return [move_out(nodes, i)]
    return ask_about_node(nodes, number, i)


def ask_about_node(nodes, number, i):
    """What a call that asks one thing about node i answers."""
    if number == DEPTH:
        return [nodes.depths[i]]
    if number == PARENT:
        return [nodes.parent_of(i)]
    if number == BLOCK:
        return [nodes.block_end(i) - i - 1]
    if number == PATH:
        return [nodes.depths[i]] + nodes.path_to(i)
    return [len(nodes.texts[i])] + nodes.texts[i]


def answer_find(nodes, parent, text):
    """The first node with this text and this parent; parent is a node's number plus 1, or 0 for none."""
    if parent > nodes.size():
        return [NO_NODE]
    for i in range(nodes.size()):
        if nodes.texts[i] == text and nodes.parent_of(i) == parent:
            return [i]
    return [NO_TEXT]

"""How the tests put calls together, take answers apart, and look at an outline."""

import re

from outlinetexts.desk import answers

LAID, BRACES = 0, 1
HIGHEST = 4294967295

INIT = [0]
COUNT = [3]


def read(form, text):
    return [1, form, len(text), *text]


def write(form, step):
    return [2, form, step]


def depth(i):
    return [4, i]


def parent(i):
    return [5, i]


def block(i):
    return [6, i]


def path(i):
    return [7, i]


def text_of(i):
    return [8, i]


def find(p, text):
    return [9, p, len(text), *text]


def add(p, text):
    return [10, p, len(text), *text]


def cut(i):
    return [11, i]


def move_in(i):
    return [12, i]


def move_out(i):
    return [13, i]


def parted(answered):
    """The answers of the calls one by one."""
    rows = []
    at = 0
    while at < len(answered):
        length = answered[at]
        rows.append(answered[at + 1:at + 1 + length])
        at += 1 + length
    assert at == len(answered), "an answer is shorter than it says"
    return rows


def run(*calls):
    """What is answered to these calls, each a list."""
    rows = parted(answers([number for call in calls for number in call]))
    assert len(rows) == len(calls), "there are not as many answers as calls"
    return rows


def last(*calls):
    return run(*calls)[-1]


def written(form, step, *calls):
    """The bytes that are written after these calls."""
    answer = last(*calls, write(form, step))
    assert answer[0] == len(answer) - 1, "write's count is not that of its bytes"
    return bytes(answer[1:])


def nodes(*calls):
    """The outline after these calls: a pair of depth and text for each node."""
    rows = []
    lines = written(LAID, 1, *calls).split(b"\n")[:-1]
    for i, line in enumerate(lines):
        deep = last(*calls, depth(i))[0]
        assert line[:deep] == b" " * deep
        rows.append((deep, re.sub(rb"(?s)\\(.)", rb"\1", line[deep:])))
    assert last(*calls, COUNT) == [len(rows)]
    return rows


def nodes_of(form, text):
    """The outline that a text without faults says."""
    assert last(read(form, text)) == [0], (text, last(read(form, text)))
    return nodes(read(form, text))


def state(*calls):
    """All that can be asked about the outline after these calls, and about the first number that is no node's."""
    asks = [COUNT, write(LAID, 1), write(BRACES, 1)]
    for i in range(last(*calls, COUNT)[0] + 1):
        asks += [depth(i), parent(i), block(i), path(i), text_of(i)]
    shown = []
    room = 60 - len(calls)
    for start in range(0, len(asks), room):
        shown += run(*calls, *asks[start:start + room])[len(calls):]
    return shown


def chain(form, count):
    """A text of nodes, each the one before it's only child."""
    if form == LAID:
        return b"".join(b" " * i + b"n\n" for i in range(count))
    return b"{".join([b"n"] * count) + b"}" * (count - 1)

"""Writing an outline in either form."""

from outlinetexts.signs import BACKSLASH, CLOSER, HASH, LINE_FEED, OPENER, SEMICOLON, SPACE
from outlinetexts.signs import FORM_BRACES, FORM_LAID_OUT


def write_layout(nodes, step):
    """The bytes of the outline laid out, each depth step columns further right."""
    written = []
    for i in range(nodes.size()):
        written.extend([SPACE] * (nodes.depths[i] * step))
        written.extend(guarded(nodes.texts[i], FORM_LAID_OUT))
        written.append(LINE_FEED)
    return written


def write_braces(nodes):
    """The bytes of the outline in braces."""
    written = []
    depth = 0
    for i in range(nodes.size()):
        if i > 0:
            written.extend(marks_between(depth, nodes.depths[i]))
        written.extend(guarded(nodes.texts[i], FORM_BRACES))
        depth = nodes.depths[i]
    written.extend([CLOSER] * depth)
    return written


def marks_between(depth, depth_after):
    """What stands between two nodes of these depths."""
    if depth_after > depth:
        return [OPENER]
    if depth_after == depth:
        return [SEMICOLON]
    return [CLOSER] * (depth - depth_after)


def guarded(text, form):
    """The text with a backslash before each byte that would be read otherwise."""
    written = []
    for at in range(len(text)):
        if needs_backslash(text, at, form):
            written.append(BACKSLASH)
        written.append(text[at])
    return written


def needs_backslash(text, at, form):
    """Whether the byte at a place of a text would be read otherwise."""
    if text[at] == BACKSLASH:
        return True
    if text[at] == SPACE:
        return at == 0 or at == len(text) - 1
    if form == FORM_LAID_OUT:
        return text[at] == HASH and at == 0
    return text[at] in (SEMICOLON, OPENER, CLOSER)

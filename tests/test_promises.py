"""The promises P1, P2, P3 and P5, over many texts; a second reader, written another way, is held against the first."""

import itertools
import random
import re
import unittest

from calling import BRACES, COUNT, HIGHEST, INIT, LAID, add, block, chain, cut, depth, find, last, move_in, move_out, nodes
from calling import parent, path, read, run, state, text_of, write, written

SIX = b"\\#;{} "
SAMPLE = read(BRACES, b"a{\\ b{c\\;;d\\\\}#e}f{g}h")
EDITED = [SAMPLE, add(2, b"# n "), move_in(3), move_out(5), cut(6), add(0, b"};{\\"), move_in(7), add(8, b"\xff" * 64)]

FAULTY = [
    (LAID, b"a\x01", 1), (LAID, b"a\n b\\", 2), (LAID, b" a\nb", 3), (LAID, b"a\n" * 65, 4),
    (LAID, chain(LAID, 17), 5), (LAID, b"a\n" + b"x" * 65, 6),
    (BRACES, b"a;\x7f", 1), (BRACES, b"a\\", 2), (BRACES, b"a;" * 65, 4), (BRACES, chain(BRACES, 17), 5),
    (BRACES, b"a;" + b"x" * 65, 6), (BRACES, b"a;{}", 7), (BRACES, b"a}", 8), (BRACES, b"a{b", 9), (BRACES, b"a\nb", 10),
]


class Wrong(Exception):
    pass


def units(text, base):
    return [(base + found.start(), found.group()) for found in re.finditer(rb"(?s)\\.|.", text)]


def meaning(rest, ten):
    """The text of trimmed units."""
    for place, unit in rest:
        if unit[:1] == b"\\":
            if len(unit) == 1 or unit[1] not in SIX:
                raise Wrong(2, place)
        elif ten and unit in (b"\n", b"\r"):
            raise Wrong(10, place)
        elif re.match(rb"[\x00-\x1f\x7f]", unit):
            raise Wrong(1, place)
    if len(rest) > 64:
        raise Wrong(6, rest[0][0])
    return b"".join(unit[-1:] for _, unit in rest)


def second_laid(text):
    rows = []
    base = 0
    for line in text.split(b"\n"):
        body = re.sub(rb"\r\Z", b"", line)
        column = len(body) - len(body.lstrip(b" "))
        rest = units(body[column:], base + column)
        while rest and rest[-1][1] == b" ":
            rest.pop()
        if rest and rest[0][1] != b"#":
            above = max((j for j, row in enumerate(rows) if row["column"] < column), default=None)
            if {row["column"] for row in rows if row["above"] == above} - {column}:
                raise Wrong(3, base + column)
            deep = 0 if above is None else rows[above]["depth"] + 1
            if len(rows) == 64:
                raise Wrong(4, base + column)
            if deep == 16:
                raise Wrong(5, base + column)
            rows.append({"column": column, "above": above, "depth": deep, "text": meaning(rest, False)})
        base += len(line) + 1
    return [(row["depth"], row["text"]) for row in rows]


def second_braces(text):
    rows = []
    held = []
    piece = []
    for place, unit in units(text, 0) + [(len(text), b"")]:
        if unit not in (b";", b"{", b"}", b""):
            piece.append((place, unit))
            continue
        while piece and piece[0][1] in (b" ", b"\n", b"\r"):
            piece.pop(0)
        while piece and piece[-1][1] in (b" ", b"\n", b"\r"):
            piece.pop()
        if piece:
            if len(rows) == 64:
                raise Wrong(4, piece[0][0])
            if len(held) == 16:
                raise Wrong(5, piece[0][0])
            rows.append((len(held), meaning(piece, True)))
        if unit == b"{":
            if not piece:
                raise Wrong(7, place)
            held.append(place)
        if unit == b"}":
            if not held:
                raise Wrong(8, place)
            held.pop()
        piece = []
    if held:
        raise Wrong(9, held[-1])
    return rows


def second(form, text):
    """What read answers and which nodes there are then, by the second reader."""
    try:
        return [0], (second_laid if form == LAID else second_braces)(text)
    except Wrong as wrong:
        number, place = wrong.args
        before = text[:place]
        return [number, 1 + before.count(b"\n"), place - before.rfind(b"\n")], None


def guarded(form, text):
    """A text as write puts it, by another way."""
    whole = re.sub(rb"\\" if form == LAID else rb"[\\;{}]", rb"\\\g<0>", text)
    whole = re.sub(rb"\A#", rb"\\#", whole) if form == LAID else whole
    whole = re.sub(rb"\A ", rb"\\ ", whole)
    return re.sub(rb"(?<!\A\\) \Z", rb"\\ ", whole)


def second_written(form, step, rows):
    if form == LAID:
        return b"".join(b" " * (deep * step) + guarded(LAID, text) + b"\n" for deep, text in rows)
    whole = b""
    for (deep, text), after in zip(rows, [deep for deep, _ in rows[1:]] + [None]):
        whole += guarded(BRACES, text)
        whole += b"}" * deep if after is None else b"{" if after > deep else b"}" * (deep - after) or b";"
    return whole


def texts_over(signs, longest):
    for length in range(longest + 1):
        for picked in itertools.product(signs, repeat=length):
            yield bytes(picked)


def random_rows(luck, most=64):
    """A random outline."""
    rows = []
    deep = 0
    for _ in range(luck.randint(0, most)):
        deep = luck.randint(max(0, deep - 2), min(15, deep + 1)) if rows else 0
        text = bytes(luck.choice(b"ab  \\#;{}~\xff") for _ in range(luck.choice([1, 1, 2, 3, 9, 64])))
        rows.append((deep, text))
    return rows


def random_calls(luck):
    """Bytes as one would write them, with some of them changed."""
    form = luck.choice([LAID, BRACES])
    text = bytearray(second_written(form, luck.randint(1, 3), random_rows(luck, luck.choice([4, 20, 66]))))
    for _ in range(luck.choice([0, 0, 1, 1, 2, 5])):
        at = luck.randint(0, len(text))
        text[at:at + luck.randint(0, 2)] = bytes([luck.choice(b"a \\#;{}\n\r\x01\x7f")] * luck.choice([0, 1, 1, 2]))
    return form, bytes(text[:2048])


class SecondReader(unittest.TestCase):
    def hold(self, form, text):
        expected, rows = second(form, text)
        answers = run(SAMPLE, read(form, text), write(LAID, 2), write(BRACES, 8), write(LAID, 1), COUNT)
        self.assertEqual(answers[1], expected, (form, text))
        if rows is None:
            rows = second(BRACES, bytes(SAMPLE[3:]))[1]
        whole = [second_written(LAID, 2, rows), second_written(BRACES, 8, rows), second_written(LAID, 1, rows)]
        self.assertEqual(answers[2:], [[len(row), *row] for row in whole] + [[len(rows)]], (form, text))

    def test_all_short_texts(self):
        for text in texts_over(b"a #\\\n\r", 5):
            self.hold(LAID, text)
        for text in texts_over(b"a;{}\\\n", 5):
            self.hold(BRACES, text)
        for text in texts_over(b"a; \\\r\x01", 4):
            self.hold(LAID, text)
            self.hold(BRACES, text)

    def test_many_columns(self):
        for columns in itertools.product(range(4), repeat=5):
            self.hold(LAID, b"\n".join(b" " * column + b"a" for column in columns))

    def test_longer_texts(self):
        luck = random.Random(1)
        seen = set()
        for _ in range(1500):
            form, text = random_calls(luck)
            self.hold(form, text)
            seen.add((form, second(form, text)[0][0]))
        self.assertLessEqual({(LAID, 0), (BRACES, 0), (LAID, 2), (BRACES, 2), (LAID, 3), (LAID, 4), (BRACES, 4),
                              (BRACES, 7), (BRACES, 8), (BRACES, 9), (BRACES, 10)}, seen)


class P1(unittest.TestCase):
    def test_other_columns_in_the_same_order(self):
        luck = random.Random(2)
        for _ in range(150):
            rows = random_rows(luck, 24)
            columns = sorted(luck.sample(range(40), 16))
            lines = [b" " * columns[deep] + guarded(LAID, text) for deep, text in rows]
            self.assertEqual(nodes(read(LAID, b"\n".join(lines))), rows)

    def test_columns_that_hang_on_the_parent(self):
        for text in (b"a\n b\n  c\nd\n e", b"a\n      b\n       c\nd\n e", b"   a\n    b\n         c\n   d\n        e"):
            self.assertEqual(written(BRACES, 1, read(LAID, text)), b"a{b{c}}d{e}")

    def test_whatever_calls_stand_before(self):
        for text in (b"a\n b\n  c\nd\n e", b"  a\n\n   # x\n      b\n       c\n  d\n   e"):
            self.assertEqual(state(*EDITED, read(LAID, text)), state(read(BRACES, b"a{b{c}}d{e}")))

    def test_faults_hang_on_the_order_too(self):
        for text in (b"a\n  b\n c", b"a\n         b\n    c", b"     a\n         b\n      c"):
            self.assertEqual(last(read(LAID, text))[:2], [3, 3])

    def test_empty_lines_and_remarks_do_not_matter(self):
        luck = random.Random(3)
        for _ in range(100):
            rows = random_rows(luck, 24)
            lines = second_written(LAID, 2, rows).split(b"\n")
            for _ in range(luck.randint(1, 6)):
                extra = luck.choice([b"", b"    ", b"#", b"      # r \\q\x01", b" #r\r\r", b"\r", b"  \r"])
                lines.insert(luck.randint(0, len(lines)), extra)
            self.assertEqual(nodes(read(LAID, b"\n".join(lines))), rows)


class P2(unittest.TestCase):
    def test_each_form_and_step(self):
        luck = random.Random(4)
        for _ in range(60):
            first = read(BRACES, second_written(BRACES, 1, random_rows(luck, 12)))
            for form, step in itertools.product((LAID, BRACES), range(1, 9)):
                again = read(form, written(form, step, first))
                self.assertEqual(run(again, write(BRACES, 1)), run(first, write(BRACES, 1)))

    def test_texts_of_all_sorts(self):
        for picked in itertools.product(b"a \\#;{}", repeat=3):
            first = read(BRACES, guarded(BRACES, bytes(picked)))
            for form in (LAID, BRACES):
                self.assertEqual(nodes(read(form, written(form, 1, first))), [(0, bytes(picked))])
        for byte in [*range(32, 127), *range(128, 256)]:
            first = read(BRACES, guarded(BRACES, bytes([byte])))
            for form in (LAID, BRACES):
                self.assertEqual(nodes(read(form, written(form, 8, first))), [(0, bytes([byte]))])

    def test_the_largest_and_the_least(self):
        for first in (INIT, read(LAID, b"a\n" * 64), read(BRACES, chain(BRACES, 16)), read(LAID, b"x" * 64)):
            for form, step in itertools.product((LAID, BRACES), (1, 8)):
                again = read(form, written(form, step, first))
                self.assertEqual(last(again), [0])
                self.assertEqual(state(again), state(first))


    def test_after_the_calls_that_change(self):
        self.assertEqual(run(*EDITED), [[0], [4], [3], [5], [2], [7], [7], [8]])
        for form, step in itertools.product((LAID, BRACES), range(1, 9)):
            again = read(form, written(form, step, *EDITED))
            self.assertEqual(last(again), [0])
            self.assertEqual(state(again), state(*EDITED))


class P3(unittest.TestCase):
    def test_a_fault_leaves_the_outline_as_it_was(self):
        for form, text, number in FAULTY:
            answer = last(SAMPLE, read(form, text))
            self.assertEqual((answer[0], len(answer)), (number, 3), text)
            self.assertEqual(state(SAMPLE, read(form, text)), state(SAMPLE), text)
            self.assertEqual(state(read(form, text)), state(), text)
            self.assertEqual(last(*EDITED, read(form, text)), answer, text)
            self.assertEqual(state(*EDITED, read(form, text)), state(*EDITED), text)

    def test_read_after_a_fault(self):
        for form, text, _ in FAULTY:
            self.assertEqual(nodes(read(form, text), read(LAID, b"a\n b")), [(0, b"a"), (1, b"b")])


class P5(unittest.TestCase):
    def test_refused_calls_and_asking_calls_change_nothing(self):
        calls = [read(2, b"x"), read(HIGHEST, b""), write(0, 0), write(1, 9), write(2, 1), write(0, 3), write(1, 3), COUNT]
        calls += [call(i) for call in (depth, parent, block) for i in (0, 1, 7, 8, HIGHEST)]
        calls += [call(i) for call in (path, text_of) for i in (0, 1, 7, 8, HIGHEST)]
        calls += [find(p, text) for p in (0, 1, 8, 9, HIGHEST) for text in (b"a", b"f", b"", b"x" * 2048)]
        for call in calls:
            self.assertEqual(state(SAMPLE, call), state(SAMPLE), call)
            self.assertEqual(state(*EDITED, call), state(*EDITED), call)
        for start in range(0, len(calls), 30):
            self.assertEqual(state(SAMPLE, *calls[start:start + 30]), state(SAMPLE))

    def test_refused_changes_change_nothing(self):
        calls = [call(i) for call in (cut, move_in, move_out) for i in (8, 9, HIGHEST)]
        calls += [add(p, text) for p, text in ((9, b"a"), (HIGHEST, b""), (0, b""), (1, b"\x1f"), (8, b"x" * 65))]
        calls += [move_in(0), move_in(1), move_in(2), move_in(6), move_out(0), move_out(5), move_out(7)]
        for call in calls:
            self.assertLess(last(SAMPLE, call)[0], 0, call)
            self.assertEqual(len(last(SAMPLE, call)), 1, call)
            self.assertEqual(state(SAMPLE, call), state(SAMPLE), call)
        for first, call in ((read(LAID, b"a\n" * 64), add(0, b"n")), (read(LAID, chain(LAID, 16)), add(16, b"n")),
                            (read(LAID, b"a\n" + chain(LAID, 16)), move_in(1))):
            self.assertEqual(last(first, call), [-4])
            self.assertEqual(state(first, call), state(first))

    def test_always_an_outline(self):
        luck = random.Random(5)
        for _ in range(150):
            calls = [read(*random_calls(luck)) for _ in range(3)]
            rows = nodes(*calls)
            self.assertLessEqual(len(rows), 64)
            before = -1
            for deep, text in rows:
                self.assertTrue(0 <= deep <= min(15, before + 1))
                self.assertTrue(1 <= len(text) <= 64 and not re.search(rb"[\x00-\x1f\x7f]", text))
                before = deep

    def test_parents_and_blocks_fit_the_depths(self):
        luck = random.Random(6)
        for _ in range(40):
            rows = random_rows(luck, 18)
            deeps = [deep for deep, _ in rows]
            first = read(LAID, second_written(LAID, 1, rows))
            for i, deep in enumerate(deeps):
                above = max((j + 1 for j in range(i) if deeps[j] == deep - 1), default=0)
                below = len(list(itertools.takewhile(lambda other: other > deep, deeps[i + 1:])))
                self.assertEqual(run(first, depth(i), parent(i), block(i))[1:], [[deep], [above], [below]])


if __name__ == "__main__":
    unittest.main()

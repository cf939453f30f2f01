"""P4, and P2 and P5 over all the calls: the outline is held against a tree whose branches know one another."""

import itertools
import random
import re
import unittest

from calling import BRACES, COUNT, HIGHEST, INIT, LAID, add, block, cut, depth, find, last, move_in, move_out, nodes
from calling import parent, path, read, run, state, text_of, write, written


class Branch:
    def __init__(self, text, above):
        self.text = text
        self.above = above
        self.below = []

    def walk(self):
        """All that's below, in the outline's order."""
        for branch in self.below:
            yield branch
            yield from branch.walk()

    def line(self):
        """From the branch without another above it down to this one."""
        return [] if self.above is None else self.above.line() + [self]

    def deep(self):
        return len(self.line()) - 1


class Tree:
    """Answers the calls as the outline must."""

    def __init__(self, rows=()):
        self.root = Branch(None, None)
        for deep, text in rows:
            above = self.root
            for _ in range(deep):
                above = above.below[-1]
            above.below.append(Branch(text, above))

    def order(self):
        return list(self.root.walk())

    def rows(self):
        return [(branch.deep(), branch.text) for branch in self.order()]

    def answer(self, call):
        """What is answered to init, count or one of the calls 4 to 13."""
        if call == INIT:
            self.root = Branch(None, None)
            return [0]
        if call == COUNT:
            return [len(self.order())]
        if call[0] in (9, 10):
            return [self.below(call[0], call[1], bytes(call[3:]))]
        if call[1] >= len(self.order()):
            return [-2]
        branch = self.order()[call[1]]
        asks = {4: self.depth, 5: self.parent, 6: self.block, 7: self.path, 8: self.text,
                11: self.cut, 12: self.move_in, 13: self.move_out}
        return asks[call[0]](branch)

    def below(self, number, p, text):
        if p > len(self.order()):
            return -2
        above = ([self.root] + self.order())[p]
        if number == 9:
            same = [branch for branch in above.below if branch.text == text]
            return self.order().index(same[0]) if same else -3
        if not re.fullmatch(rb"[ -~\x80-\xff]{1,64}", text):
            return -3
        if len(self.order()) == 64 or above.deep() == 15:
            return -4
        above.below.append(Branch(text, above))
        return self.order().index(above.below[-1])

    def depth(self, branch):
        return [branch.deep()]

    def parent(self, branch):
        return [([self.root] + self.order()).index(branch.above)]

    def block(self, branch):
        return [len(list(branch.walk()))]

    def path(self, branch):
        return [branch.deep()] + [self.order().index(one) for one in branch.line()]

    def text(self, branch):
        return [len(branch.text), *branch.text]

    def cut(self, branch):
        branch.above.below.remove(branch)
        return [1 + len(list(branch.walk()))]

    def move_in(self, branch):
        at = branch.above.below.index(branch)
        if at == 0:
            return [-1]
        if max(one.deep() for one in [branch, *branch.walk()]) == 15:
            return [-4]
        self.put(branch, branch.above.below[at - 1], len(branch.above.below[at - 1].below))
        return [self.order().index(branch)]

    def move_out(self, branch):
        if branch.above is self.root:
            return [-1]
        above = branch.above.above
        self.put(branch, above, above.below.index(branch.above) + 1)
        return [self.order().index(branch)]

    def put(self, branch, above, at):
        branch.above.below.remove(branch)
        above.below.insert(at, branch)
        branch.above = above


def laid(rows):
    """The outline as a text, with every backslash that may be."""
    return b"".join(b" " * deep + re.sub(rb"[\\#;{} ]", rb"\\\g<0>", text) + b"\n" for deep, text in rows)


def all_depths(count):
    """The depths of every outline of so many nodes."""
    rows = [[]]
    for _ in range(count):
        rows = [row + [deep] for row in rows for deep in range(row[-1] + 2 if row else 1)]
    return rows


def named(depths, names=b"abcdefghij"):
    return [(deep, bytes([names[i]])) for i, deep in enumerate(depths)]


def every_call(count):
    """Each of the calls 4 to 13 with each number that is a node's, and some that are none's."""
    calls = [INIT, COUNT]
    for i in [*range(count + 2), 64, HIGHEST]:
        calls += [call(i) for call in (depth, parent, block, path, text_of, cut, move_in, move_out)]
        calls += [call(i, text) for call in (find, add) for text in (b"a", b"b", b"", b"#x", b"\n", b"x" * 65)]
    return calls


def random_rows(luck, count):
    """An outline of so many nodes; some go down to depth 15, some stay flat."""
    downwards = luck.choice([0, 1, 4])
    depths = []
    for _ in range(count):
        before = depths[-1] if depths else -1
        depths.append(min(15, luck.choice([before + 1] * downwards + [max(0, before), max(0, before - 1)])))
    return [(deep, luck.choice([b"a", b"b", b"c"])) for deep in depths]


def random_text(luck):
    return bytes(luck.choice(b"ab  \\#;{}~\x80\xff") for _ in range(luck.choice([1, 1, 1, 2, 3, 20, 64])))


def random_call(luck, count):
    i = luck.choice([luck.randint(0, max(0, count - 1))] * 12 + [count, count + 1, HIGHEST])
    text = luck.choice([random_text(luck)] * 8 + [b"", b"a\x1f", b"\x7f", b"x" * 65])
    return luck.choice([
        depth(i), parent(i), block(i), path(i), text_of(i), find(i, luck.choice([b"a", b"b", text])),
        add(i, text), add(i, text), add(luck.choice([0, i + 1]), text), add(i, b"a"),
        cut(luck.choice([i, max(0, count - 1)])), move_in(i), move_in(i), move_out(i), move_out(i)])


class HeldAgainstATree(unittest.TestCase):
    def hold(self, tree, *calls):
        """The outline after these calls is the tree: asked node by node, written, and read from what was written."""
        rows = tree.rows()
        expected = [[len(rows)]] + run(read(LAID, laid(rows)), write(LAID, 1), write(BRACES, 1))[1:]
        for i in range(len(rows) + 1):
            expected += [tree.answer(ask(i)) for ask in (depth, parent, block, path, text_of)]
        self.assertEqual(state(*calls), expected, calls)
        for form, step in ((LAID, 1), (LAID, 8), (BRACES, 3)):
            whole = written(form, step, *calls)
            if len(whole) <= 2048:
                self.assertEqual(self.rows_of(form, whole), rows, calls)

    def rows_of(self, form, text):
        """The outline that a text says."""
        first = read(form, text)
        told = run(first, COUNT)
        self.assertEqual(told[0], [0], text)
        count = told[1][0]
        rows = []
        for start in range(0, count, 29):
            numbers = range(start, min(count, start + 29))
            row = run(first, *[depth(i) for i in numbers], *[text_of(i) for i in numbers])[1:]
            rows += [(deep[0], bytes(text[1:])) for deep, text in zip(row[:len(numbers)], row[len(numbers):])]
        return rows

    def test_every_call_on_every_small_outline(self):
        for count in range(5):
            for depths in all_depths(count):
                for rows in (named(depths), named(depths, b"abab")):
                    first = read(LAID, laid(rows))
                    for call in every_call(count):
                        tree = Tree(rows)
                        self.assertEqual(last(first, call), tree.answer(call), (rows, call))
                        self.hold(tree, first, call)

    def test_moves_and_cuts_on_outlines_of_five_and_six(self):
        for count in (5, 6):
            for depths in all_depths(count):
                rows = named(depths)
                first = read(LAID, laid(rows))
                for i in range(count):
                    for call in (cut(i), move_in(i), move_out(i), add(i + 1, b"n"), add(0, b"n")):
                        tree = Tree(rows)
                        expected = tree.answer(call)
                        told = run(first, call, write(BRACES, 1))
                        self.assertEqual(told[1], expected, (rows, call))
                        self.assertEqual(told[2], last(read(LAID, laid(tree.rows())), write(BRACES, 1)), (rows, call))

    def test_one_call_after_another(self):
        luck = random.Random(7)
        for _ in range(30):
            rows = random_rows(luck, luck.choice([0, 3, 12, 20]))
            tree = Tree(rows)
            calls = [read(LAID, laid(rows))]
            for _ in range(16):
                calls.append(random_call(luck, len(tree.order())))
                self.assertEqual(last(*calls), tree.answer(calls[-1]), calls)
                self.hold(tree, *calls)

    def test_sixty_calls(self):
        luck = random.Random(8)
        for _ in range(250):
            rows = random_rows(luck, luck.choice([0, 3, 20, 40, 60, 64]))
            tree = Tree(rows)
            calls = [read(LAID, laid(rows))]
            expected = [[0]]
            for _ in range(59):
                calls.append(random_call(luck, len(tree.order())))
                expected.append(tree.answer(calls[-1]))
            self.assertEqual(run(*calls), expected, calls)


class P4(unittest.TestCase):
    def outlines(self, seed):
        luck = random.Random(seed)
        for depths in [*all_depths(4), *luck.sample(all_depths(8), 60)]:
            yield named(depths)

    def test_out_undoes_in(self):
        moved = 0
        for rows in self.outlines(10):
            first = read(LAID, laid(rows))
            for i in range(len(rows)):
                if last(first, move_in(i)) == [i]:
                    moved += 1
                    self.assertEqual(last(first, move_in(i), move_out(i)), [i])
                    self.assertEqual(state(first, move_in(i), move_out(i)), state(first))
        self.assertGreater(moved, 100)

    def test_the_others_keep_their_order_and_their_texts(self):
        for rows in self.outlines(11):
            first = read(LAID, laid(rows))
            texts = [text for _, text in rows]
            for i, call in itertools.product(range(len(rows)), (cut, move_in, move_out)):
                block_of = last(first, block(i))[0]
                held = texts[i:i + 1 + block_of]
                others = texts[:i] + texts[i + 1 + block_of:]
                after = [text for _, text in nodes(first, call(i))]
                self.assertEqual([text for text in after if text not in held], others)
                self.assertEqual([text for text in after if text in held], [] if call == cut else held)
            for p in range(len(rows) + 1):
                after = [text for _, text in nodes(first, add(p, b"n"))]
                self.assertEqual(after.index(b"n"), last(first, add(p, b"n"))[0])
                self.assertEqual([text for text in after if text != b"n"], texts)

    def test_the_others_keep_their_depths(self):
        for rows in self.outlines(12):
            first = read(LAID, laid(rows))
            for i, call in itertools.product(range(len(rows)), (cut, move_in, move_out)):
                held = rows[i:i + 1 + last(first, block(i))[0]]
                told = last(first, call(i))[0]
                by = 0 if told < 0 else {cut: None, move_in: 1, move_out: -1}[call]
                moved = [] if by is None else [(deep + by, text) for deep, text in held]
                expected = [row for row in rows if row not in held]
                at = i if told < 0 or by is None else told
                self.assertEqual(nodes(first, call(i)), expected[:at] + moved + expected[at:])


if __name__ == "__main__":
    unittest.main()

"""init, count, depth, parent, block, path, text; read with another form."""

import unittest

from calling import BRACES, COUNT, HIGHEST, INIT, LAID, block, chain, depth, last, parent, path, read, run, state, text_of

SAMPLE = read(BRACES, b"a{b{c;d}e}f{g}h")


def asked(call, first, count):
    return [row[0] for row in run(first, *[call(i) for i in range(count)])[1:]]


class Init(unittest.TestCase):
    def test_no_nodes_at_first(self):
        self.assertEqual(run(COUNT, depth(0)), [[0], [-2]])

    def test_no_nodes_afterwards(self):
        self.assertEqual(run(SAMPLE, COUNT, INIT, COUNT, depth(0)), [[0], [8], [0], [0], [-2]])
        self.assertEqual(state(SAMPLE, INIT), state())


class Ask(unittest.TestCase):
    def test_count(self):
        self.assertEqual(last(SAMPLE, COUNT), [8])
        self.assertEqual(last(read(LAID, b"a\n" * 64), COUNT), [64])

    def test_depth(self):
        self.assertEqual(asked(depth, SAMPLE, 9), [0, 1, 2, 2, 1, 0, 1, 0, -2])
        self.assertEqual(last(read(LAID, chain(LAID, 16)), depth(15)), [15])

    def test_parent(self):
        self.assertEqual(asked(parent, SAMPLE, 9), [0, 1, 2, 2, 1, 0, 6, 0, -2])
        self.assertEqual(asked(parent, read(LAID, chain(LAID, 16)), 17), [*range(16), -2])

    def test_block(self):
        self.assertEqual(asked(block, SAMPLE, 9), [4, 2, 0, 0, 0, 1, 0, 0, -2])
        self.assertEqual(asked(block, read(LAID, chain(LAID, 16)), 17), [*range(15, -1, -1), -2])

    def test_path(self):
        self.assertEqual(
            run(SAMPLE, *[path(i) for i in range(9)])[1:],
            [[0, 0], [1, 0, 1], [2, 0, 1, 2], [2, 0, 1, 3], [1, 0, 4], [0, 5], [1, 5, 6], [0, 7], [-2]])
        for form in (LAID, BRACES):
            self.assertEqual(last(read(form, chain(form, 16)), path(15)), [15, *range(16)])

    def test_path_passes_by_nodes_of_the_same_depths(self):
        deep = read(LAID, b"a\n b\nc\n d\n  e\n f\n  g\n  h\n")
        self.assertEqual(run(deep, path(4), path(7), path(3))[1:], [[2, 2, 3, 4], [2, 2, 5, 7], [1, 2, 3]])

    def test_no_such_node(self):
        for call in (path, text_of):
            self.assertEqual(last(call(0)), [-2])
            for i in (8, 9, 63, 64, 65, 65536, HIGHEST - 1, HIGHEST):
                self.assertEqual(last(SAMPLE, call(i)), [-2], i)
            self.assertEqual(last(read(LAID, b"a\n" * 64), call(64)), [-2])
        for call in (depth, parent, block):
            self.assertEqual(last(call(0)), [-2])
            for i in (8, 9, 63, 64, 65, 65536, HIGHEST - 1, HIGHEST):
                self.assertEqual(last(SAMPLE, call(i)), [-2], i)
            self.assertEqual(last(read(LAID, b"a\n" * 64), call(63)), [0])
            self.assertEqual(last(read(LAID, b"a\n" * 64), call(64)), [-2])


class Texts(unittest.TestCase):
    def test_of_each_node(self):
        self.assertEqual(
            run(SAMPLE, *[text_of(i) for i in range(9)])[1:], [[1, byte] for byte in b"abcdefgh"] + [[-2]])

    def test_lengths(self):
        self.assertEqual(last(read(LAID, b"x"), text_of(0)), [1, 120])
        self.assertEqual(last(read(LAID, b"a\n" + b"x" * 64), text_of(1)), [64] + [120] * 64)

    def test_without_the_backslashes(self):
        for form in (LAID, BRACES):
            first = read(form, b"\\ \\#\\;\\\\\\{\\}\\ ")
            self.assertEqual(last(first, text_of(0)), [7, *b" #;\\{} "])
            self.assertEqual(last(read(form, b"\\\\" * 64), text_of(0)), [64, *b"\\" * 64])

    def test_high_bytes(self):
        for form in (LAID, BRACES):
            high = [*range(128, 192)], [*range(192, 256)]
            for row in high:
                self.assertEqual(last(read(form, bytes(row)), text_of(0)), [64, *row])


class OtherForms(unittest.TestCase):
    def test_read(self):
        for form in (2, 3, HIGHEST):
            for text in (b"", b"a", b"\\x"):
                self.assertEqual(run(SAMPLE, read(form, text), COUNT), [[0], [-1], [8]])


if __name__ == "__main__":
    unittest.main()

"""init, count, depth, parent, block; read with another form."""

import unittest

from calling import BRACES, COUNT, HIGHEST, INIT, LAID, block, chain, depth, last, parent, read, run, state

SAMPLE = read(BRACES, b"a{b{c;d}e}f{g}h")


def asked(call, first, count):
    return [row[0] for row in run(first, *[call(i) for i in range(count)])[1:]]


class Init(unittest.TestCase):
    def test_no_nodes_at_first(self):
        self.assertEqual(run(COUNT, depth(0)), [[0], [-2]])

    def test_no_nodes_afterwards(self):
        self.assertEqual(run(SAMPLE, COUNT, INIT, COUNT, depth(0)), [[0], [8], [0], [0], [-2]])
        self.assertEqual(state(SAMPLE, INIT), state())


class Ask(unittest.TestCase):
    def test_count(self):
        self.assertEqual(last(SAMPLE, COUNT), [8])
        self.assertEqual(last(read(LAID, b"a\n" * 64), COUNT), [64])

    def test_depth(self):
        self.assertEqual(asked(depth, SAMPLE, 9), [0, 1, 2, 2, 1, 0, 1, 0, -2])
        self.assertEqual(last(read(LAID, chain(LAID, 16)), depth(15)), [15])

    def test_parent(self):
        self.assertEqual(asked(parent, SAMPLE, 9), [0, 1, 2, 2, 1, 0, 6, 0, -2])
        self.assertEqual(asked(parent, read(LAID, chain(LAID, 16)), 17), [*range(16), -2])

    def test_block(self):
        self.assertEqual(asked(block, SAMPLE, 9), [4, 2, 0, 0, 0, 1, 0, 0, -2])
        self.assertEqual(asked(block, read(LAID, chain(LAID, 16)), 17), [*range(15, -1, -1), -2])

    def test_no_such_node(self):
        for call in (depth, parent, block):
            self.assertEqual(last(call(0)), [-2])
            for i in (8, 9, 63, 64, 65, 65536, HIGHEST - 1, HIGHEST):
                self.assertEqual(last(SAMPLE, call(i)), [-2], i)
            self.assertEqual(last(read(LAID, b"a\n" * 64), call(63)), [0])
            self.assertEqual(last(read(LAID, b"a\n" * 64), call(64)), [-2])


class OtherForms(unittest.TestCase):
    def test_read(self):
        for form in (2, 3, HIGHEST):
            for text in (b"", b"a", b"\\x"):
                self.assertEqual(run(SAMPLE, read(form, text), COUNT), [[0], [-1], [8]])


if __name__ == "__main__":
    unittest.main()

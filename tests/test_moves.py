"""in and out."""

import unittest

from calling import BRACES, HIGHEST, LAID, add, chain, cut, last, move_in, move_out, read, run, state, written

# 0 a, 1 b, 2 c, 3 d, 4 e, 5 f, 6 g, 7 h
SAMPLE = read(BRACES, b"a{b{c;d}e{f}}g{h}")
NUMBERS_OF_NONE = (8, 9, 63, 64, 65, 65536, HIGHEST - 1, HIGHEST)


def beside_chain(deepest):
    """A node, and behind it a node with a block whose deepest node has this depth."""
    return read(LAID, b"first\n" + chain(LAID, deepest + 1))


class In(unittest.TestCase):
    def hold(self, first, i, whole):
        self.assertEqual(last(first, move_in(i)), [i], i)
        self.assertEqual(written(BRACES, 1, first, move_in(i)), whole)
        self.assertEqual(state(first, move_in(i)), state(read(BRACES, whole)))

    def test_under_the_one_before_it(self):
        self.hold(SAMPLE, 3, b"a{b{c{d}}e{f}}g{h}")
        self.hold(SAMPLE, 4, b"a{b{c;d;e{f}}}g{h}")
        self.hold(SAMPLE, 6, b"a{b{c;d}e{f}g{h}}")

    def test_the_last_one_before_it_is_taken(self):
        self.hold(read(BRACES, b"a;b;c"), 2, b"a;b{c}")
        self.hold(read(BRACES, b"a{b;c;d}"), 3, b"a{b;c{d}}")
        self.hold(read(BRACES, b"a;b{c{d}}e;f"), 4, b"a;b{c{d}e}f")

    def test_no_node_with_the_same_parent_before_it(self):
        for i in (0, 1, 2, 5, 7):
            self.assertEqual(last(SAMPLE, move_in(i)), [-1], i)
            self.assertEqual(state(SAMPLE, move_in(i)), state(SAMPLE))
        for i in range(16):
            self.assertEqual(last(read(LAID, chain(LAID, 16)), move_in(i)), [-1])

    def test_a_depth_of_16(self):
        for deepest, told in ((13, 1), (14, 1), (15, -4)):
            self.assertEqual(last(beside_chain(deepest), move_in(1)), [told], deepest)
        self.assertEqual(state(beside_chain(15), move_in(1)), state(beside_chain(15)))
        self.assertEqual(run(beside_chain(14), move_in(1), [4, 15], [6, 1])[1:], [[1], [15], [14]])

    def test_the_deepest_need_not_be_the_last(self):
        first = read(LAID, b"first\n" + chain(LAID, 16) + b" x\n")
        self.assertEqual(last(first, move_in(1)), [-4])
        self.assertEqual(state(first, move_in(1)), state(first))

    def test_nodes_behind_the_block_do_not_count(self):
        self.assertEqual(last(read(LAID, b"a\nb\n" + chain(LAID, 16)), move_in(1)), [1])

    def test_itself_at_depth_15(self):
        two = read(LAID, chain(LAID, 16) + b" " * 15 + b"m\n")
        self.assertEqual(last(two, move_in(16)), [-4])
        self.assertEqual(last(read(LAID, chain(LAID, 15) + b" " * 14 + b"m\n"), move_in(15)), [15])

    def test_the_first_refusal_is_told(self):
        deep = read(LAID, chain(LAID, 16))
        self.assertEqual(run(deep, move_in(16), move_in(0), move_in(15))[1:], [[-2], [-1], [-1]])

    def test_no_such_node(self):
        self.assertEqual(last(move_in(0)), [-2])
        for i in NUMBERS_OF_NONE:
            self.assertEqual(last(SAMPLE, move_in(i)), [-2], i)
            self.assertEqual(state(SAMPLE, move_in(i)), state(SAMPLE))

    def test_again_and_again(self):
        flat = read(BRACES, b"a;b;c")
        self.assertEqual(run(flat, move_in(2), move_in(2), move_in(1), move_in(2))[1:], [[2], [-1], [1], [-1]])
        self.assertEqual(written(BRACES, 1, flat, move_in(1), move_in(2), move_in(2)), b"a{b{c}}")


class Out(unittest.TestCase):
    def hold(self, first, i, number, whole):
        self.assertEqual(last(first, move_out(i)), [number], i)
        self.assertEqual(written(BRACES, 1, first, move_out(i)), whole)
        self.assertEqual(state(first, move_out(i)), state(read(BRACES, whole)))

    def test_each_node(self):
        for i, number, whole in (
                (1, 3, b"a{e{f}}b{c;d}g{h}"), (2, 3, b"a{b{d}c;e{f}}g{h}"), (3, 3, b"a{b{c}d;e{f}}g{h}"),
                (4, 4, b"a{b{c;d}}e{f}g{h}"), (5, 5, b"a{b{c;d}e;f}g{h}"), (7, 7, b"a{b{c;d}e{f}}g;h")):
            self.hold(SAMPLE, i, number, whole)

    def test_behind_the_rest_of_its_parents_block(self):
        self.hold(read(BRACES, b"a{b;c;d}e"), 1, 3, b"a{c;d}b;e")
        self.hold(read(BRACES, b"a{b;c;d}e"), 2, 3, b"a{b;d}c;e")
        self.hold(read(BRACES, b"a{b;c;d}e"), 3, 3, b"a{b;c}d;e")
        self.hold(read(BRACES, b"a{b{x{y};z}c{d{e}}}f"), 1, 4, b"a{c{d{e}}}b{x{y}z}f")
        self.hold(read(BRACES, b"r{a{b{x};c;d}s}"), 2, 4, b"r{a{c;d}b{x}s}")

    def test_no_parent(self):
        for i in (0, 6):
            self.assertEqual(last(SAMPLE, move_out(i)), [-1])
            self.assertEqual(state(SAMPLE, move_out(i)), state(SAMPLE))

    def test_no_such_node(self):
        self.assertEqual(last(move_out(0)), [-2])
        for i in NUMBERS_OF_NONE:
            self.assertEqual(last(SAMPLE, move_out(i)), [-2], i)
            self.assertEqual(state(SAMPLE, move_out(i)), state(SAMPLE))

    def test_from_depth_15_up_to_0(self):
        calls = [read(LAID, chain(LAID, 16))] + [move_out(15)] * 16
        self.assertEqual(run(*calls)[1:], [[15]] * 15 + [[-1]])
        self.assertEqual(written(LAID, 1, *calls), chain(LAID, 15) + b"n\n")

    def test_a_full_outline(self):
        many = read(LAID, b"a\n b\n" + b" c\n" * 62)
        self.assertEqual(last(many, move_out(1)), [63])
        self.assertEqual(written(LAID, 1, many, move_out(1)), b"a\n" + b" c\n" * 62 + b"b\n")


class InAndOut(unittest.TestCase):
    def test_out_undoes_in(self):
        for first in (SAMPLE, beside_chain(14), read(LAID, b"a\n" * 64), read(BRACES, b"a{b;c{d};e}f{g}h")):
            for i in range(64):
                if last(first, move_in(i))[0] >= 0:
                    self.assertEqual(last(first, move_in(i), move_out(i)), [i])
                    self.assertEqual(state(first, move_in(i), move_out(i)), state(first))

    def test_many_in_and_then_many_out(self):
        flat = read(BRACES, b"a;b;c;d{e}f")
        ins = [move_in(1), move_in(2), move_in(2), move_in(3), move_in(3)]
        outs = [move_out(3), move_out(3), move_out(2), move_out(2), move_out(1)]
        self.assertEqual(run(flat, *ins, *outs)[1:], [[1], [2], [2], [3], [3], [3], [3], [2], [2], [1]])
        self.assertEqual(written(BRACES, 1, flat, *ins), b"a{b{c;d{e}}}f")
        for k in range(6):
            self.assertEqual(state(flat, *ins, *outs[:5 - k]), state(flat, *ins[:k]))

    def test_in_undoes_out_only_of_a_last_child(self):
        first = read(BRACES, b"a{b;c}")
        self.assertEqual(state(first, move_out(2), move_in(2)), state(first))
        self.assertEqual(written(BRACES, 1, first, move_out(1), move_in(2)), b"a{c;b}")

    def test_after_the_other_calls(self):
        self.assertEqual(
            written(BRACES, 1, SAMPLE, add(6, b"n"), cut(1), move_out(3), move_in(4), move_in(2)), b"a{e{f;n}g{h}}")


if __name__ == "__main__":
    unittest.main()

"""add."""

import unittest

from calling import BRACES, COUNT, HIGHEST, INIT, LAID, add, chain, last, nodes, read, run, state, text_of, written

# 0 a, 1 b, 2 c, 3 d, 4 e, 5 f
SAMPLE = read(BRACES, b"a{b{c}d}e{f}")
FULL = read(LAID, b"a\n" * 64)
DEEP = read(LAID, chain(LAID, 16))
FULL_AND_DEEP = read(LAID, chain(LAID, 16) + b"a\n" * 48)


class Place(unittest.TestCase):
    def test_each_parent(self):
        for p, number, whole in (
                (0, 6, b"a{b{c}d}e{f}n"), (1, 4, b"a{b{c}d;n}e{f}"), (2, 3, b"a{b{c;n}d}e{f}"), (3, 3, b"a{b{c{n}}d}e{f}"),
                (4, 4, b"a{b{c}d{n}}e{f}"), (5, 6, b"a{b{c}d}e{f;n}"), (6, 6, b"a{b{c}d}e{f{n}}")):
            self.assertEqual(last(SAMPLE, add(p, b"n")), [number], p)
            self.assertEqual(written(BRACES, 1, SAMPLE, add(p, b"n")), whole)
            self.assertEqual(state(SAMPLE, add(p, b"n")), state(read(BRACES, whole)))

    def test_to_an_outline_without_nodes(self):
        self.assertEqual(run(add(0, b"a"), COUNT), [[0], [1]])
        self.assertEqual(nodes(INIT, add(0, b"a"), add(1, b"b"), add(1, b"c"), add(0, b"d"), add(2, b"e")),
                         [(0, b"a"), (1, b"b"), (2, b"e"), (1, b"c"), (0, b"d")])

    def test_behind_a_block_of_many_depths(self):
        deep = read(LAID, b"a\n b\n  c\n   d\ne\n")
        self.assertEqual(run(deep, add(1, b"n"))[1:], [[4]])
        self.assertEqual(written(BRACES, 1, deep, add(1, b"n")), b"a{b{c{d}}n}e")


class Texts(unittest.TestCase):
    def test_lengths(self):
        for text in (b"", b"x" * 65, b"x" * 66, b"x" * 2048):
            self.assertEqual(last(SAMPLE, add(0, text)), [-3], len(text))
            self.assertEqual(state(SAMPLE, add(1, text)), state(SAMPLE))
        for text in (b"x", b"x" * 2, b"x" * 63, b"x" * 64):
            self.assertEqual(run(SAMPLE, add(0, text), text_of(6))[1:], [[6], [len(text), *text]])

    def test_bytes(self):
        for byte in range(256):
            for text in ([byte], [97, byte], [byte, 97], [97] * 63 + [byte]):
                if byte < 32 or byte == 127:
                    self.assertEqual(run(SAMPLE, add(1, text), COUNT)[1:], [[-3], [6]], byte)
                else:
                    self.assertEqual(run(SAMPLE, add(1, text), text_of(4))[1:], [[4], [len(text), *text]], byte)

    def test_a_backslash_is_a_byte_like_others(self):
        for text in (b"\\", b"\\\\", b"\\n", b"a\\", b"#", b"# a", b" ", b"  ", b"a ", b" a", b";", b"{", b"}", b"a{b}"):
            self.assertEqual(last(add(0, text), text_of(0)), [len(text), *text])
            for form in (LAID, BRACES):
                again = read(form, written(form, 2, SAMPLE, add(1, text), add(0, text)))
                self.assertEqual(state(again), state(SAMPLE, add(1, text), add(0, text)))


class Refused(unittest.TestCase):
    def test_p_is_none_of_a_parent(self):
        for first, count in ((INIT, 0), (SAMPLE, 6)):
            self.assertEqual(last(first, add(count, b"n")), [count])
            for p in (count + 1, count + 2, 65536, HIGHEST - 1, HIGHEST):
                self.assertEqual(last(first, add(p, b"n")), [-2], p)
                self.assertEqual(state(first, add(p, b"n")), state(first))

    def test_a_65th_node(self):
        most = read(LAID, b"a\n" * 63)
        for p in (0, 1, 40, 63):
            self.assertEqual(run(most, add(p, b"n"), COUNT, add(p, b"n"), COUNT)[2:], [[64], [-4], [64]])
            self.assertEqual(state(most, add(p, b"n"), add(0, b"m")), state(most, add(p, b"n")))
        for p in (0, 1, 63, 64):
            self.assertEqual(last(FULL, add(p, b"n")), [-4])

    def test_a_depth_of_16(self):
        self.assertEqual(last(DEEP, add(15, b"n")), [16])
        self.assertEqual(last(DEEP, add(16, b"n")), [-4])
        self.assertEqual(state(DEEP, add(16, b"n")), state(DEEP))
        self.assertEqual(run(*[add(p, b"n") for p in range(17)]), [[i] for i in range(16)] + [[-4]])

    def test_the_first_refusal_is_told(self):
        for first, p, text, told in (
                (SAMPLE, 7, b"", -2), (SAMPLE, 7, b"x" * 65, -2), (SAMPLE, HIGHEST, b"\n", -2),
                (FULL, 65, b"a", -2), (FULL, 65, b"", -2), (DEEP, 17, b"a", -2),
                (FULL, 0, b"", -3), (FULL, 64, b"\x7f", -3), (FULL, 1, b"x" * 2048, -3),
                (DEEP, 16, b"", -3), (DEEP, 16, b"\x1f", -3), (DEEP, 16, b"x" * 65, -3),
                (FULL_AND_DEEP, 16, b"a", -4), (FULL_AND_DEEP, 16, b"", -3), (FULL_AND_DEEP, 65, b"", -2)):
            self.assertEqual(run(first, add(p, text)), [[0], [told]], (p, text))
            self.assertEqual(state(first, add(p, text)), state(first))


if __name__ == "__main__":
    unittest.main()

"""cut."""

import unittest

from calling import BRACES, COUNT, HIGHEST, INIT, LAID, add, chain, cut, last, read, run, state, written

# 0 a, 1 b, 2 c, 3 d, 4 e, 5 f, 6 g
SAMPLE = read(BRACES, b"a{b{c;d}e}f{g}")


class Cut(unittest.TestCase):
    def test_each_node(self):
        for i, count, whole in (
                (0, 5, b"f{g}"), (1, 3, b"a{e}f{g}"), (2, 1, b"a{b{d}e}f{g}"), (3, 1, b"a{b{c}e}f{g}"),
                (4, 1, b"a{b{c;d}}f{g}"), (5, 2, b"a{b{c;d}e}"), (6, 1, b"a{b{c;d}e}f")):
            self.assertEqual(last(SAMPLE, cut(i)), [count], i)
            self.assertEqual(written(BRACES, 1, SAMPLE, cut(i)), whole)
            self.assertEqual(state(SAMPLE, cut(i)), state(read(BRACES, whole)))

    def test_until_none_is_left(self):
        self.assertEqual(run(SAMPLE, *[cut(0)] * 3, COUNT), [[0], [5], [2], [-2], [0]])
        self.assertEqual(run(SAMPLE, *[cut(i) for i in range(6, -1, -1)], COUNT), [[0]] + [[1]] * 7 + [[0]])
        self.assertEqual(state(SAMPLE, cut(0), cut(0)), state())
        flat = read(LAID, b"a\n" * 50)
        self.assertEqual(run(flat, *[cut(0)] * 51, COUNT)[1:], [[1]] * 50 + [[-2], [0]])

    def test_all_at_once(self):
        for form in (LAID, BRACES):
            self.assertEqual(run(read(form, chain(form, 16)), cut(0), COUNT)[1:], [[16], [0]])
            self.assertEqual(run(read(form, chain(form, 16)), cut(15), COUNT)[1:], [[1], [15]])
        many = read(LAID, b"a\n" + b" b\n" * 63)
        self.assertEqual(run(many, cut(0), COUNT)[1:], [[64], [0]])

    def test_no_such_node(self):
        self.assertEqual(last(cut(0)), [-2])
        for i in (7, 8, 63, 64, 65, 65536, HIGHEST - 1, HIGHEST):
            self.assertEqual(last(SAMPLE, cut(i)), [-2], i)
            self.assertEqual(state(SAMPLE, cut(i)), state(SAMPLE))
            self.assertEqual(state(INIT, cut(i)), state())

    def test_there_is_room_again(self):
        full = read(LAID, b"a\n" * 64)
        self.assertEqual(run(full, add(0, b"n"), cut(10), add(1, b"n"), add(1, b"m"))[1:], [[-4], [1], [1], [-4]])


if __name__ == "__main__":
    unittest.main()

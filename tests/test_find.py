"""find."""

import unittest

from calling import BRACES, HIGHEST, INIT, LAID, add, chain, find, last, read, run, state

# 0 a, 1 x, 2 y, 3 x, 4 a, 5 x, 6 z, 7 x, 8 a
SAMPLE = read(BRACES, b"a{x{y};x}a{x{z}}x;a")


class Find(unittest.TestCase):
    def test_without_a_parent(self):
        self.assertEqual(run(SAMPLE, find(0, b"a"), find(0, b"x"))[1:], [[0], [7]])

    def test_under_a_parent(self):
        self.assertEqual(run(SAMPLE, find(1, b"x"), find(2, b"y"), find(5, b"x"), find(6, b"z"))[1:], [[1], [2], [5], [6]])

    def test_the_first_of_the_same_text(self):
        same = read(LAID, b"a\n b\n b\na\n b\n b\n")
        self.assertEqual(run(same, find(0, b"a"), find(1, b"b"), find(4, b"b"))[1:], [[0], [1], [4]])

    def test_a_text_that_only_another_parent_has(self):
        for p, text in ((0, b"y"), (0, b"z"), (1, b"y"), (1, b"a"), (2, b"x"), (3, b"y"), (5, b"z"), (8, b"x"), (9, b"a")):
            self.assertEqual(last(SAMPLE, find(p, text)), [-3], (p, text))

    def test_just_that_text(self):
        long = read(LAID, b"abc\n" + b"x" * 64)
        for text in (b"", b"a", b"ab", b"bc", b"abcd", b"ABC", b"abc ", b" abc", b"x" * 63, b"x" * 65, b"x" * 2048):
            self.assertEqual(last(long, find(0, text)), [-3], text)
        self.assertEqual(run(long, find(0, b"abc"), find(0, b"x" * 64))[1:], [[0], [1]])

    def test_a_text_that_is_none(self):
        for text in (b"", b"\n", b"\x00" * 64, b"\x7f", b"a" * 2048, b"\xff" * 2048):
            self.assertEqual(run(SAMPLE, find(0, text), find(1, text), find(9, text), find(10, text))[1:],
                             [[-3], [-3], [-3], [-2]], text)

    def test_signs_stand_without_backslashes(self):
        for form in (LAID, BRACES):
            signs = read(form, b"\\ \\#\\;\\{\\}\\\\\\ ")
            self.assertEqual(last(signs, find(0, b" #;{}\\ ")), [0])
            self.assertEqual(last(signs, find(0, b"\\ \\#\\;\\{\\}\\\\\\ ")), [-3])
        self.assertEqual(last(read(LAID, bytes(range(128, 192))), find(0, bytes(range(128, 192)))), [0])

    def test_p_is_none_of_a_parent(self):
        for first, count in ((INIT, 0), (SAMPLE, 9), (read(LAID, b"a\n" * 64), 64)):
            self.assertEqual(last(first, find(count, b"q")), [-3])
            for p in (count + 1, count + 2, 65536, HIGHEST - 1, HIGHEST):
                for text in (b"", b"a", b"q", b"q" * 2048):
                    self.assertEqual(last(first, find(p, text)), [-2], (count, p))

    def test_the_last_node_as_parent(self):
        for form in (LAID, BRACES):
            deep = read(form, chain(form, 16))
            self.assertEqual(last(deep, find(15, b"n")), [15])
            self.assertEqual(last(deep, find(16, b"n")), [-3])
            self.assertEqual(last(deep, find(17, b"n")), [-2])

    def test_what_was_added_is_found(self):
        self.assertEqual(run(SAMPLE, find(2, b"new"), add(2, b"new"), find(2, b"new"), find(0, b"new"))[1:],
                         [[-3], [3], [3], [-3]])

    def test_nothing_is_changed(self):
        for call in (find(0, b"a"), find(0, b"q"), find(1, b""), find(10, b"a"), find(HIGHEST, b"a" * 2048)):
            self.assertEqual(state(SAMPLE, call), state(SAMPLE))


if __name__ == "__main__":
    unittest.main()

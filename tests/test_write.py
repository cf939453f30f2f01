"""write in both forms."""

import unittest

from calling import BRACES, HIGHEST, INIT, LAID, last, nodes, read, run, write, written

SAMPLE = read(LAID, b"a\n b\n  c\n  d\n e\nf\n g\n")


class Laid(unittest.TestCase):
    def test_steps(self):
        self.assertEqual(written(LAID, 1, SAMPLE), b"a\n b\n  c\n  d\n e\nf\n g\n")
        self.assertEqual(
            written(LAID, 8, SAMPLE),
            b"a\n" + b" " * 8 + b"b\n" + b" " * 16 + b"c\n" + b" " * 16 + b"d\n" + b" " * 8 + b"e\nf\n" + b" " * 8 + b"g\n")

    def test_backslashes(self):
        text = b"\\ a \\ \n\\#b#\nc\\\\d;{}\n\\ \n"
        self.assertEqual(written(LAID, 3, read(LAID, text)), text)

    def test_backslashes_that_are_not_needed_are_not_written(self):
        self.assertEqual(written(LAID, 3, read(LAID, b"a\\#\\;\\{\\}\\ \\#b")), b"a#;{} #b\n")


class Braces(unittest.TestCase):
    def test_marks(self):
        self.assertEqual(written(BRACES, 1, SAMPLE), b"a{b{c;d}e}f{g}")
        self.assertEqual(written(BRACES, 8, SAMPLE), b"a{b{c;d}e}f{g}")
        self.assertEqual(written(BRACES, 1, read(LAID, b"a\n b\n  c\n   d\ne\nf\n g\n  h")), b"a{b{c{d}}}e;f{g{h}}")

    def test_backslashes(self):
        text = b"\\ a \\ ;#b#;c\\\\d\\;\\{\\};\\ "
        self.assertEqual(written(BRACES, 3, read(BRACES, text)), text)

    def test_backslashes_that_are_not_needed_are_not_written(self):
        self.assertEqual(written(BRACES, 3, read(BRACES, b"\\#a\\ b")), b"#a b")


class Both(unittest.TestCase):
    def test_no_nodes(self):
        self.assertEqual(run(write(LAID, 1), write(BRACES, 8), INIT, write(LAID, 2)), [[0], [0], [0], [0]])

    def test_step_outside_1_to_8(self):
        for form in (LAID, BRACES):
            for step in (0, 9, 10, HIGHEST):
                self.assertEqual(last(SAMPLE, write(form, step)), [-1], (form, step))
            for step in range(1, 9):
                self.assertGreater(last(SAMPLE, write(form, step))[0], 0)

    def test_another_form(self):
        for form in (2, 3, HIGHEST):
            for step in (0, 1, 8, 9):
                self.assertEqual(last(SAMPLE, write(form, step)), [-1], (form, step))

    def test_what_is_written_is_read_as_the_same(self):
        for form in (LAID, BRACES):
            for step in (1, 8):
                again = read(form, written(form, step, SAMPLE))
                self.assertEqual(last(again), [0])
                self.assertEqual(nodes(again), nodes(SAMPLE))


if __name__ == "__main__":
    unittest.main()

"""read in form 0: what a laid out text says, and its faults."""

import unittest

from calling import LAID, chain, last, nodes, nodes_of, read


def says(text):
    return nodes_of(LAID, text)


def answer(text):
    return last(read(LAID, text))


class Ordinary(unittest.TestCase):
    def test_one_line(self):
        self.assertEqual(says(b"a"), [(0, b"a")])
        self.assertEqual(says(b"a\n"), [(0, b"a")])

    def test_blocks_by_columns(self):
        self.assertEqual(
            says(b"a\n  b\n     c\n     d\n  e\nf\n g\n"),
            [(0, b"a"), (1, b"b"), (2, b"c"), (2, b"d"), (1, b"e"), (0, b"f"), (1, b"g")])

    def test_columns_of_different_parents_are_free(self):
        self.assertEqual(says(b"a\n    b\nc\n  d\n"), [(0, b"a"), (1, b"b"), (0, b"c"), (1, b"d")])

    def test_first_column_need_not_be_the_first(self):
        self.assertEqual(says(b"   a\n    b\n   c"), [(0, b"a"), (1, b"b"), (0, b"c")])

    def test_several_steps_back_at_once(self):
        self.assertEqual(says(b"a\n b\n  c\n   d\ne"), [(0, b"a"), (1, b"b"), (2, b"c"), (3, b"d"), (0, b"e")])

    def test_brace_marks_are_ordinary(self):
        self.assertEqual(says(b"a{b;c}"), [(0, b"a{b;c}")])

    def test_hash_inside_a_text_is_ordinary(self):
        self.assertEqual(says(b"a # b"), [(0, b"a # b")])

    def test_high_bytes_stand_for_themselves(self):
        self.assertEqual(says(bytes([126, 128, 255])), [(0, bytes([126, 128, 255]))])

    def test_read_replaces_the_outline(self):
        self.assertEqual(nodes(read(LAID, b"a\nb\nc"), read(LAID, b"d")), [(0, b"d")])
        self.assertEqual(nodes(read(LAID, b"a\nb\nc"), read(LAID, b"")), [])


class PassedOver(unittest.TestCase):
    def test_texts_without_nodes(self):
        for text in (b"", b"\n", b"\r", b"   ", b"\n\n  \n", b"\r\n\r\n", b"  \r\n", b"#", b"  # remark\n#x\r\n", b"#\\q\x01\n"):
            self.assertEqual(says(text), [], text)

    def test_passed_over_lines_have_no_column(self):
        self.assertEqual(says(b"     # r\na\n   \n  # r\n    b\n # r\n\n    c"), [(0, b"a"), (1, b"b"), (1, b"c")])

    def test_a_remark_is_not_looked_at(self):
        self.assertEqual(says(b"# \\x \x01\x7f" + b"y" * 99 + b"\r\r\na"), [(0, b"a")])

    def test_hash_with_backslash_is_a_text(self):
        self.assertEqual(says(b"\\#a\n  \\#"), [(0, b"#a"), (1, b"#")])


class Units(unittest.TestCase):
    def test_the_six(self):
        self.assertEqual(says(b"\\\\\\#\\;\\{\\}\\ "), [(0, b"\\#;{} ")])

    def test_spaces_with_backslash_at_both_ends(self):
        self.assertEqual(says(b"\\ "), [(0, b" ")])
        self.assertEqual(says(b"a\n \\  b \\   \n"), [(0, b"a"), (1, b"  b  ")])

    def test_plain_spaces_at_the_end_are_no_text(self):
        self.assertEqual(says(b"a  b   \nc   "), [(0, b"a  b"), (0, b"c")])

    def test_backslash_with_backslash_before_the_spaces_at_the_end(self):
        self.assertEqual(says(b"a\\\\   \n"), [(0, b"a\\")])

    def test_three_backslashes_before_the_space_at_the_end(self):
        self.assertEqual(says(b"a\\\\\\  \n"), [(0, b"a\\ ")])

    def test_a_column_ends_at_a_backslash(self):
        self.assertEqual(says(b"a\n \\ b\n \\  c"), [(0, b"a"), (1, b" b"), (1, b"  c")])


class Returns(unittest.TestCase):
    def test_one_before_a_line_feed_and_at_the_end(self):
        self.assertEqual(says(b"a\r\n b\r\n\r\n c\r"), [(0, b"a"), (1, b"b"), (1, b"c")])

    def test_spaces_before_it_are_no_text(self):
        self.assertEqual(says(b"a  \r\n"), [(0, b"a")])

    def test_two_are_a_fault(self):
        self.assertEqual(answer(b"a\r\r\n"), [1, 1, 2])
        self.assertEqual(answer(b"a\r\r"), [1, 1, 2])
        self.assertEqual(answer(b"a\n  \r\r\nb"), [1, 2, 3])
        self.assertEqual(answer(b"a\n\r\r"), [1, 2, 1])

    def test_inside_a_line(self):
        self.assertEqual(answer(b"a\rb"), [1, 1, 2])
        self.assertEqual(answer(b"a\r \n"), [1, 1, 2])
        self.assertEqual(answer(b"\ra"), [1, 1, 1])


class Faults(unittest.TestCase):
    def test_1_bytes_below_32_and_127(self):
        for byte in [*range(10), 11, 12, *range(14, 32), 127]:
            self.assertEqual(answer(b"a\n  bc" + bytes([byte]) + b"d\n"), [1, 2, 5], byte)
        self.assertEqual(answer(b"\ta"), [1, 1, 1])

    def test_2_backslash_with_another_byte(self):
        for byte in range(256):
            expected = [0] if byte in b"\\#;{} " else [2, 2, 3]
            self.assertEqual(answer(b"a\nbc\\" + bytes([byte])), expected, byte)

    def test_2_backslash_as_the_last_byte(self):
        self.assertEqual(answer(b"a\\"), [2, 1, 2])
        self.assertEqual(answer(b"x\n  a\\\nb"), [2, 2, 4])
        self.assertEqual(answer(b"x\n  a\\\r\nb"), [2, 2, 4])
        self.assertEqual(answer(b"x\n  \\\\\\"), [2, 2, 5])
        self.assertEqual(answer(b"   \\"), [2, 1, 4])

    def test_3_another_column_below_one_parent(self):
        self.assertEqual(answer(b"a\n    b\n  c"), [3, 3, 3])
        self.assertEqual(answer(b"a\n  b\n      c\n    d"), [3, 4, 5])
        self.assertEqual(answer(b"a\n  b\n      c\n  d\n   e\n      f\n g"), [3, 7, 2])

    def test_3_another_column_without_parent(self):
        self.assertEqual(answer(b"  a\nb"), [3, 2, 1])
        self.assertEqual(answer(b"  a\n   b\n c"), [3, 3, 2])

    def test_4_a_65th_node(self):
        self.assertEqual(says(b"a\n" * 64), [(0, b"a")] * 64)
        self.assertEqual(says(b"a\n" * 64 + b"  # remark\n \n"), [(0, b"a")] * 64)
        self.assertEqual(answer(b"a\n" * 65), [4, 65, 1])
        self.assertEqual(answer(b"a\n" * 64 + b"\n  b"), [4, 66, 3])

    def test_5_a_depth_of_16(self):
        self.assertEqual(says(chain(LAID, 16)), [(i, b"n") for i in range(16)])
        self.assertEqual(answer(chain(LAID, 17)), [5, 17, 17])
        self.assertEqual(says(chain(LAID, 16) + b" " * 15 + b"m")[-1], (15, b"m"))

    def test_6_a_text_of_65_bytes(self):
        self.assertEqual(says(b"x" * 64), [(0, b"x" * 64)])
        self.assertEqual(answer(b"a\n  " + b"x" * 65 + b"\n"), [6, 2, 3])

    def test_6_counts_what_units_stand_for(self):
        self.assertEqual(says(b"\\;" * 64 + b"  "), [(0, b";" * 64)])
        self.assertEqual(answer(b"\\;" * 65), [6, 1, 1])
        self.assertEqual(says(b" " * 200 + b"x" * 63 + b"\\ " + b" " * 9), [(0, b"x" * 63 + b" ")])


class OrderOfFaults(unittest.TestCase):
    def test_lines_in_order(self):
        self.assertEqual(answer(b"  a\\x\nb"), [2, 1, 4])
        self.assertEqual(answer(b"  " + b"x" * 65 + b"\nb"), [6, 1, 3])
        self.assertEqual(answer(b"  a\nb\nc\\x"), [3, 2, 1])

    def test_3_before_4_and_1_and_2_and_6(self):
        self.assertEqual(answer(b" a\n" * 64 + b"b"), [3, 65, 1])
        self.assertEqual(answer(b" a\nb\x01"), [3, 2, 1])
        self.assertEqual(answer(b" a\nb\\x"), [3, 2, 1])
        self.assertEqual(answer(b" a\n" + b"x" * 65), [3, 2, 1])

    def test_4_before_5(self):
        text = b"a\n" * 48 + chain(LAID, 16)
        self.assertEqual(answer(text), [0])
        self.assertEqual(answer(text + b" " * 16 + b"n\\x"), [4, 65, 17])

    def test_4_and_5_before_1_and_2_and_6(self):
        self.assertEqual(answer(b"a\n" * 64 + b"\\x"), [4, 65, 1])
        self.assertEqual(answer(chain(LAID, 16) + b" " * 16 + b"\x01"), [5, 17, 17])
        self.assertEqual(answer(chain(LAID, 16) + b" " * 16 + b"x" * 65), [5, 17, 17])

    def test_first_of_1_and_2(self):
        self.assertEqual(answer(b"a\x01\\x"), [1, 1, 2])
        self.assertEqual(answer(b"a\\x\x01"), [2, 1, 2])
        self.assertEqual(answer(b"a\\\x01"), [2, 1, 2])

    def test_1_and_2_before_6(self):
        self.assertEqual(answer(b" " + b"x" * 70 + b"\x01"), [1, 1, 72])
        self.assertEqual(answer(b" " + b"x" * 70 + b"\\"), [2, 1, 72])


if __name__ == "__main__":
    unittest.main()

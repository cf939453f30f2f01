"""read in form 1: what a text in braces says, and its faults."""

import unittest

from calling import BRACES, chain, last, nodes_of, read


def says(text):
    return nodes_of(BRACES, text)


def answer(text):
    return last(read(BRACES, text))


class Ordinary(unittest.TestCase):
    def test_pieces(self):
        self.assertEqual(says(b"a"), [(0, b"a")])
        self.assertEqual(says(b"a;b;c"), [(0, b"a"), (0, b"b"), (0, b"c")])

    def test_blocks(self):
        self.assertEqual(
            says(b"a{b{c;d}e}f{g}"),
            [(0, b"a"), (1, b"b"), (2, b"c"), (2, b"d"), (1, b"e"), (0, b"f"), (1, b"g")])

    def test_semicolon_around_braces_does_nothing_else(self):
        self.assertEqual(says(b";a{;b;;c;};d;"), [(0, b"a"), (1, b"b"), (1, b"c"), (0, b"d")])

    def test_blanks_around_pieces(self):
        self.assertEqual(says(b" \r\n a \n{\n\tb".replace(b"\t", b" ") + b"\r\n}\n c d \r"),
                         [(0, b"a"), (1, b"b"), (0, b"c d")])

    def test_an_empty_block_is_none(self):
        self.assertEqual(says(b"a{}"), [(0, b"a")])
        self.assertEqual(says(b"a{ ;\n; }b{;}"), [(0, b"a"), (0, b"b")])
        self.assertEqual(says(b"a{b{}}c"), [(0, b"a"), (1, b"b"), (0, b"c")])

    def test_hash_is_ordinary(self):
        self.assertEqual(says(b"#a;b#"), [(0, b"#a"), (0, b"b#")])

    def test_high_bytes_stand_for_themselves(self):
        self.assertEqual(says(bytes([126, 128, 255])), [(0, bytes([126, 128, 255]))])


class EmptyPieces(unittest.TestCase):
    def test_texts_without_nodes(self):
        for text in (b"", b";", b" ;\n;\r;  ", b"\n", b"\r\r\n", b"   "):
            self.assertEqual(says(text), [], text)


class Units(unittest.TestCase):
    def test_the_six(self):
        self.assertEqual(says(b"\\\\\\#\\;\\{\\}\\ "), [(0, b"\\#;{} ")])

    def test_marks_with_backslash_part_nothing(self):
        self.assertEqual(says(b"a\\;b\\{c\\}"), [(0, b"a;b{c}")])

    def test_backslash_with_backslash_before_a_mark(self):
        self.assertEqual(says(b"a\\\\;b\\\\{c\\\\}"), [(0, b"a\\"), (0, b"b\\"), (1, b"c\\")])

    def test_spaces_with_backslash_at_both_ends(self):
        self.assertEqual(says(b"  \\  a \\  ;\\ "), [(0, b"  a  "), (0, b" ")])

    def test_returns_and_line_feeds_at_the_ends_in_any_number(self):
        self.assertEqual(says(b"\r\r\na\r\r\n;\n\n\rb\r\r"), [(0, b"a"), (0, b"b")])


class Faults(unittest.TestCase):
    def test_1_bytes_below_32_and_127(self):
        for byte in [*range(10), 11, 12, *range(14, 32), 127]:
            self.assertEqual(answer(b"a;\n bc" + bytes([byte]) + b"d;"), [1, 2, 4], byte)
        self.assertEqual(answer(b"\ta"), [1, 1, 1])
        self.assertEqual(answer(b"a{\t}"), [1, 1, 3])

    def test_2_backslash_with_another_byte(self):
        for byte in range(256):
            expected = [0] if byte in b"\\#;{} " else [2, 2, 3]
            self.assertEqual(answer(b"a;\nbc\\" + bytes([byte])), expected, byte)

    def test_2_backslash_as_the_last_byte(self):
        self.assertEqual(answer(b"a\\"), [2, 1, 2])
        self.assertEqual(answer(b"\\"), [2, 1, 1])
        self.assertEqual(answer(b"a;\nb\\\\\\"), [2, 2, 4])

    def test_2_backslash_before_a_line_end(self):
        self.assertEqual(answer(b"a\\\n;b"), [2, 1, 2])
        self.assertEqual(answer(b"a\\\r\n;b"), [2, 1, 2])
        self.assertEqual(answer(b"\\\na"), [2, 1, 1])

    def test_4_a_65th_node(self):
        self.assertEqual(says(b"a;" * 64), [(0, b"a")] * 64)
        self.assertEqual(says(b"a;" * 64 + b" ;\n"), [(0, b"a")] * 64)
        self.assertEqual(answer(b"a;" * 64 + b"\n  b"), [4, 2, 3])
        self.assertEqual(answer(b"a;" * 65), [4, 1, 129])

    def test_5_a_depth_of_16(self):
        self.assertEqual(says(chain(BRACES, 16)), [(i, b"n") for i in range(16)])
        self.assertEqual(answer(b"n{" * 16 + b"\n  m" + b"}" * 16), [5, 2, 3])
        self.assertEqual(answer(chain(BRACES, 17)), [5, 1, 33])

    def test_5_not_for_an_empty_block(self):
        self.assertEqual(says(b"n{" * 16 + b" ;" + b"}" * 16), [(i, b"n") for i in range(16)])

    def test_6_a_text_of_65_bytes(self):
        self.assertEqual(says(b"x" * 64), [(0, b"x" * 64)])
        self.assertEqual(answer(b"a;\n  " + b"x" * 65 + b" ;"), [6, 2, 3])

    def test_6_counts_what_units_stand_for(self):
        self.assertEqual(says(b"\\;" * 64 + b"  "), [(0, b";" * 64)])
        self.assertEqual(answer(b"\\;" * 65), [6, 1, 1])
        self.assertEqual(says(b" " * 200 + b"x" * 63 + b"\\ " + b"\n" * 9), [(0, b"x" * 63 + b" ")])

    def test_7_a_brace_behind_nothing(self):
        self.assertEqual(answer(b"{a}"), [7, 1, 1])
        self.assertEqual(answer(b"a;\n {b}"), [7, 2, 2])
        self.assertEqual(answer(b"a{b}{c}"), [7, 1, 5])
        self.assertEqual(answer(b"a{\n{"), [7, 2, 1])

    def test_8_a_brace_that_closes_nothing(self):
        self.assertEqual(answer(b"}"), [8, 1, 1])
        self.assertEqual(answer(b"a{b}\n }c"), [8, 2, 2])

    def test_9_a_brace_that_is_not_closed(self):
        self.assertEqual(answer(b"a{"), [9, 1, 2])
        self.assertEqual(answer(b"a{b\n{c"), [9, 2, 1])
        self.assertEqual(answer(b"a{b\n{c}d\n"), [9, 1, 2])
        self.assertEqual(answer(b"a{b{c{d}e}"), [9, 1, 2])

    def test_10_a_line_end_inside_a_piece(self):
        self.assertEqual(answer(b"a\nb"), [10, 1, 2])
        self.assertEqual(answer(b"a;\n b \r\nc"), [10, 2, 4])
        self.assertEqual(answer(b"a\rb"), [10, 1, 2])
        self.assertEqual(answer(b"a\n\n{b}\n c\n d"), [10, 4, 3])


class OrderOfFaults(unittest.TestCase):
    def test_a_piece_before_what_ends_it(self):
        self.assertEqual(answer(b"a\\x}"), [2, 1, 2])
        self.assertEqual(answer(b"a}b\\x"), [8, 1, 2])
        self.assertEqual(answer(b"a{b\\x"), [2, 1, 4])
        self.assertEqual(answer(b"{a\\x"), [7, 1, 1])
        self.assertEqual(answer(b"a{" + b"x" * 65), [6, 1, 3])

    def test_8_before_9(self):
        self.assertEqual(answer(b"a}b{"), [8, 1, 2])

    def test_4_before_5(self):
        text = b"a;" * 48 + b"n{" * 16
        self.assertEqual(answer(text + b"}" * 16), [0])
        self.assertEqual(answer(text + b"\n m"), [4, 2, 2])

    def test_4_and_5_before_1_and_2_and_10_and_6(self):
        self.assertEqual(answer(b"a;" * 64 + b"\nb\\x"), [4, 2, 1])
        self.assertEqual(answer(b"n{" * 16 + b"\nb\x01"), [5, 2, 1])
        self.assertEqual(answer(b"n{" * 16 + b"\nb\nc"), [5, 2, 1])
        self.assertEqual(answer(b"n{" * 16 + b"\n" + b"x" * 65), [5, 2, 1])

    def test_first_of_1_and_2_and_10(self):
        self.assertEqual(answer(b"a\x01\\x\nb"), [1, 1, 2])
        self.assertEqual(answer(b"a\\x\x01\nb"), [2, 1, 2])
        self.assertEqual(answer(b"a\nb\\x\x01"), [10, 1, 2])

    def test_1_and_2_and_10_before_6(self):
        self.assertEqual(answer(b" " + b"x" * 70 + b"\x01"), [1, 1, 72])
        self.assertEqual(answer(b" " + b"x" * 70 + b"\\"), [2, 1, 72])
        self.assertEqual(answer(b" " + b"x" * 70 + b"\ny"), [10, 1, 72])


if __name__ == "__main__":
    unittest.main()

"""How calls stand in the list, what is given back, and that nothing else is touched or kept."""

import contextlib
import io
import unittest

from calling import BRACES, COUNT, LAID, chain, depth, read, write

from outlinetexts.desk import UnknownCall, answers


class Unchanged(list):
    """A list that can't be changed, not for a while either."""

    def refuse(self, *args):
        raise AssertionError("the list handed in was changed")

    append = extend = insert = pop = remove = reverse = sort = clear = refuse
    __setitem__ = __delitem__ = __iadd__ = __imul__ = refuse


ALL = [0, *read(LAID, b"a\n b\n"), *write(LAID, 2), *write(BRACES, 2), 3, 4, 1, 5, 1, 6, 0, 6, 2,
       *read(BRACES, b"a{\n"), *read(2, b"ab"), *write(0, 0), *COUNT]
ALL_ANSWERED = [1, 0, 1, 0, 7, 6, 97, 10, 32, 32, 98, 10, 5, 4, 97, 123, 98, 125, 1, 2, 1, 1, 1, 1, 1, 1, 1, -2,
                3, 9, 1, 2, 1, -1, 1, -1, 1, 2]


class Interface(unittest.TestCase):
    def test_all_calls_in_one_list(self):
        self.assertEqual(answers(list(ALL)), ALL_ANSWERED)

    def test_one_call(self):
        self.assertEqual(answers([0]), [1, 0])
        self.assertEqual(answers([3]), [1, 0])
        self.assertEqual(answers([1, 0, 0]), [1, 0])
        self.assertEqual(answers([2, 1, 1]), [1, 0])

    def test_a_list_of_whole_numbers_is_given_back(self):
        given = answers(list(ALL))
        self.assertIs(type(given), list)
        self.assertEqual({type(number) for number in given}, {int})

    def test_what_is_handed_in_is_not_changed(self):
        calls = Unchanged(ALL)
        self.assertEqual(answers(calls), ALL_ANSWERED)
        self.assertEqual(calls, ALL)

    def test_what_is_given_back_is_new(self):
        calls = list(ALL)
        answers(calls).clear()
        self.assertEqual(calls, ALL)
        self.assertEqual(answers(calls), ALL_ANSWERED)

    def test_nothing_is_kept(self):
        self.assertEqual(answers(list(ALL)), answers(list(ALL)))
        self.assertEqual(answers([3, 4, 0]), [1, 0, 1, -2])
        self.assertEqual(answers([*read(LAID, b"x"), *depth(0)]), [1, 0, 1, 0])
        self.assertEqual(answers([3, 4, 0]), [1, 0, 1, -2])

    def test_sixty_calls(self):
        calls = []
        expected = []
        for count in range(1, 31):
            calls += [*read(LAID, b"a\n" * count), 3]
            expected += [1, 0, 1, count]
        self.assertEqual(answers(calls), expected)

    def test_the_longest_texts(self):
        for form, text, expected in (
                (LAID, b"\n" * 2047 + b"a", [1, 0]), (LAID, b" " * 2047 + b"a", [1, 0]),
                (LAID, b"x" * 2048, [3, 6, 1, 1]), (LAID, b"\\ " * 1024, [3, 6, 1, 1]),
                (BRACES, b";" * 2047 + b"a", [1, 0]), (BRACES, b"\n" * 2047 + b"a", [1, 0]),
                (BRACES, b"{" * 2048, [3, 7, 1, 1]), (BRACES, b"a{" * 1024, [3, 5, 1, 33]),
                (BRACES, b"a{}" * 64 + b"a", [3, 4, 1, 193])):
            self.assertEqual(answers(read(form, text) * 14), expected * 14)

    def test_a_list_as_long_as_it_may_be(self):
        calls = (read(BRACES, chain(BRACES, 16)) + read(LAID, b"#" * 2048)) * 14
        self.assertLess(len(calls), 30000)
        self.assertEqual(answers(calls + COUNT), [1, 0] * 29)

    def test_a_number_that_is_no_call(self):
        for number in (14, 4294967295):
            with self.assertRaises(UnknownCall):
                answers([0, number, 0])

    def test_nothing_is_printed(self):
        with contextlib.redirect_stdout(io.StringIO()) as out, contextlib.redirect_stderr(io.StringIO()) as err:
            answers(list(ALL))
        self.assertEqual(out.getvalue() + err.getvalue(), "")


if __name__ == "__main__":
    unittest.main()

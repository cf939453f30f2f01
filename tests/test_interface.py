"""How calls stand in the list, what is given back, and that nothing else is touched or kept."""

import contextlib
import io
import unittest

from calling import BRACES, COUNT, LAID, add, chain, depth, find, read, text_of, write

from outlinetexts.desk import UnknownCall, answers


class Unchanged(list):
    """A list that can't be changed, not for a while either."""

    def refuse(self, *args):
        raise AssertionError("the list handed in was changed")

    append = extend = insert = pop = remove = reverse = sort = clear = refuse
    __setitem__ = __delitem__ = __iadd__ = __imul__ = refuse


# Each call as it stands in the list, and what is given back for it; the outline is a with b below it, at first.
ALL_CALLS = [
    ([0], [1, 0]), ([1, 0, 5, 97, 10, 32, 98, 10], [1, 0]), ([2, 0, 2], [7, 6, 97, 10, 32, 32, 98, 10]),
    ([2, 1, 2], [5, 4, 97, 123, 98, 125]), ([3], [1, 2]), ([4, 1], [1, 1]), ([5, 1], [1, 1]), ([6, 0], [1, 1]),
    ([6, 2], [1, -2]), ([1, 1, 3, 97, 123, 10], [3, 9, 1, 2]), ([1, 2, 2, 97, 98], [1, -1]), ([2, 0, 0], [1, -1]),
    ([7, 0], [2, 0, 0]), ([7, 1], [3, 1, 0, 1]), ([7, 2], [1, -2]), ([8, 1], [2, 1, 98]), ([8, 2], [1, -2]),
    ([9, 1, 1, 98], [1, 1]), ([9, 0, 2, 98, 98], [1, -3]), ([9, 3, 0], [1, -2]),
    ([10, 1, 2, 99, 100], [1, 2]), ([10, 0, 1, 101], [1, 3]), ([10, 0, 0], [1, -3]), ([10, 5, 1, 97], [1, -2]),
    ([8, 2], [3, 2, 99, 100]), ([12, 2], [1, 2]), ([12, 1], [1, -1]), ([7, 2], [4, 2, 0, 1, 2]),
    ([13, 1], [1, 1]), ([13, 1], [1, -1]), ([2, 1, 1], [9, 8, 97, 59, 98, 123, 99, 100, 125, 101]),
    ([11, 1], [1, 2]), ([11, 2], [1, -2]), ([3], [1, 2]), ([2, 1, 1], [4, 3, 97, 59, 101]),
]
ALL = [number for call, _ in ALL_CALLS for number in call]
ALL_ANSWERED = [number for _, answered in ALL_CALLS for number in answered]


class Interface(unittest.TestCase):
    def test_all_calls_in_one_list(self):
        self.assertEqual(answers(list(ALL)), ALL_ANSWERED)

    def test_one_call(self):
        self.assertEqual(answers([0]), [1, 0])
        self.assertEqual(answers([3]), [1, 0])
        self.assertEqual(answers([1, 0, 0]), [1, 0])
        self.assertEqual(answers([2, 1, 1]), [1, 0])
        self.assertEqual(answers([10, 0, 1, 97]), [1, 0])
        self.assertEqual(answers([9, 0, 0]), [1, -3])
        for number in (4, 5, 6, 7, 8, 11, 12, 13):
            self.assertEqual(answers([number, 0]), [1, -2])

    def test_a_list_of_whole_numbers_is_given_back(self):
        given = answers(list(ALL))
        self.assertIs(type(given), list)
        self.assertEqual({type(number) for number in given}, {int})

    def test_what_is_handed_in_is_not_changed(self):
        calls = Unchanged(ALL)
        self.assertEqual(answers(calls), ALL_ANSWERED)
        self.assertEqual(calls, ALL)

    def test_what_is_given_back_is_new(self):
        calls = list(ALL)
        answers(calls).clear()
        self.assertEqual(calls, ALL)
        self.assertEqual(answers(calls), ALL_ANSWERED)

    def test_nothing_is_kept(self):
        self.assertEqual(answers(list(ALL)), answers(list(ALL)))
        self.assertEqual(answers([3, 4, 0]), [1, 0, 1, -2])
        self.assertEqual(answers([*read(LAID, b"x"), *depth(0)]), [1, 0, 1, 0])
        self.assertEqual(answers([3, 4, 0]), [1, 0, 1, -2])
        self.assertEqual(answers([*add(0, b"x"), *add(0, b"x"), 12, 1]), [1, 0, 1, 1, 1, 1])
        self.assertEqual(answers([3, *find(0, b"x")]), [1, 0, 1, -3])

    def test_what_is_handed_in_later_does_not_touch_what_was_added(self):
        calls = [*add(0, b"abc"), *text_of(0), *find(0, b"abd"), *add(0, b"abd"), *text_of(0), *text_of(1)]
        self.assertEqual(answers(calls), [1, 0, 4, 3, *b"abc", 1, -3, 1, 1, 4, 3, *b"abc", 4, 3, *b"abd"])

    def test_sixty_calls(self):
        calls = []
        expected = []
        for count in range(1, 31):
            calls += [*read(LAID, b"a\n" * count), 3]
            expected += [1, 0, 1, count]
        self.assertEqual(answers(calls), expected)
        self.assertEqual(answers(add(0, b"a") * 60), [n for i in range(60) for n in (1, i)])
        self.assertEqual(answers(read(LAID, b"a\nb") + [12, 1, 13, 1] * 29 + [3]), [1, 0] + [1, 1] * 58 + [1, 2])

    def test_the_longest_texts(self):
        for form, text, expected in (
                (LAID, b"\n" * 2047 + b"a", [1, 0]), (LAID, b" " * 2047 + b"a", [1, 0]),
                (LAID, b"x" * 2048, [3, 6, 1, 1]), (LAID, b"\\ " * 1024, [3, 6, 1, 1]),
                (BRACES, b";" * 2047 + b"a", [1, 0]), (BRACES, b"\n" * 2047 + b"a", [1, 0]),
                (BRACES, b"{" * 2048, [3, 7, 1, 1]), (BRACES, b"a{" * 1024, [3, 5, 1, 33]),
                (BRACES, b"a{}" * 64 + b"a", [3, 4, 1, 193])):
            self.assertEqual(answers(read(form, text) * 14), expected * 14)

    def test_a_list_as_long_as_it_may_be(self):
        calls = (read(BRACES, chain(BRACES, 16)) + read(LAID, b"#" * 2048)) * 14
        self.assertLess(len(calls), 30000)
        self.assertEqual(answers(calls + COUNT), [1, 0] * 29)

    def test_thirty_thousand_numbers(self):
        calls = [*add(0, b"a"), *(add(1, b"x" * 2048) + find(0, b"x" * 2048)) * 7]
        answered = [1, 0] + [1, -3] * 14
        calls += find(2, b"y" * (30000 - 3 - len(calls)))
        self.assertEqual(len(calls), 30000)
        kept = list(calls)
        self.assertEqual(answers(calls), answered + [1, -2])
        self.assertEqual(calls, kept)
        calls = [*read(LAID, b"#" * 2048) * 14, *read(BRACES, chain(BRACES, 16)), *add(16, b"a"), *add(15, b"a"), *COUNT]
        calls += read(2, b"z" * (30000 - 3 - len(calls)))
        self.assertEqual(len(calls), 30000)
        self.assertEqual(answers(calls), [1, 0] * 15 + [1, -4, 1, 16, 1, 17, 1, -1])

    def test_a_number_that_is_no_call(self):
        for number in (14, 4294967295):
            with self.assertRaises(UnknownCall):
                answers([0, number, 0])

    def test_nothing_is_printed(self):
        with contextlib.redirect_stdout(io.StringIO()) as out, contextlib.redirect_stderr(io.StringIO()) as err:
            answers(list(ALL))
        self.assertEqual(out.getvalue() + err.getvalue(), "")


if __name__ == "__main__":
    unittest.main()

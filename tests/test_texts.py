"""Points 3 to 6: texts, edits and lines."""

import itertools
import unittest

from samenames.errors import InvalidEdit
from samenames.texts import (apply_edit, apply_joint, difference, inverse, is_text, line_column,
                             offset_at)

# Characters that may not stand in a text.
WRONG = ["%", "\t", "\r", "\0", "\x0b", "\x1f", "\x7f", "\x80", "\xa0", "\xe9", "\u2028", "\U0001f600"]


def words(letters, longest):
    """All strings of the letters up to a length."""
    for length in range(longest + 1):
        for row in itertools.product(letters, repeat=length):
            yield "".join(row)


class IsTextTest(unittest.TestCase):
    def test_the_empty_text(self):
        self.assertIs(is_text(""), True)

    def test_lengths(self):
        for length in (1, 3999, 4000):
            self.assertIs(is_text("a" * length), True)
            self.assertIs(is_text("\n" * length), True)
        for length in (4001, 4002, 8000):
            self.assertIs(is_text("a" * length), False)
            self.assertIs(is_text("\n" * length), False)

    def test_each_character(self):
        for code in range(1000):
            expected = code == 10 or (32 <= code <= 126 and code != 37)
            for text in (chr(code), "a" + chr(code), chr(code) + "a", "ab\n" + chr(code) + "\ncd"):
                with self.subTest(code=code):
                    self.assertIs(is_text(text), expected)

    def test_wrong_characters_anywhere_in_a_long_text(self):
        for sign in WRONG:
            for at in (0, 1, 2000, 3999):
                self.assertIs(is_text("a" * at + sign + "a" * (3999 - at)), False)


class EditTest(unittest.TestCase):
    def refuse(self, text, edit):
        with self.subTest(length=len(text), edit=edit):
            self.assertRaises(InvalidEdit, apply_edit, text, edit)
            self.assertRaises(InvalidEdit, inverse, text, edit)

    def test_the_example(self):
        self.assertEqual(apply_edit("abcd", (1, 3, "x")), "axd")
        self.assertEqual(inverse("abcd", (1, 3, "x")), (1, 2, "bc"))

    def test_edits_at_the_start_and_at_the_end(self):
        self.assertEqual(apply_edit("abcd", (0, 0, "x")), "xabcd")
        self.assertEqual(apply_edit("abcd", (0, 2, "x")), "xcd")
        self.assertEqual(apply_edit("abcd", (4, 4, "x")), "abcdx")
        self.assertEqual(apply_edit("abcd", (3, 4, "xy")), "abcxy")
        self.assertEqual(apply_edit("abcd", (0, 4, "")), "")
        self.assertEqual(apply_edit("", (0, 0, "x\ny")), "x\ny")

    def test_edits_that_change_nothing(self):
        self.assertEqual(apply_edit("", (0, 0, "")), "")
        self.assertEqual(apply_edit("abcd", (2, 2, "")), "abcd")
        self.assertEqual(apply_edit("abcd", (1, 3, "bc")), "abcd")
        self.assertEqual(inverse("abcd", (1, 3, "bc")), (1, 3, "bc"))
        self.assertEqual(inverse("abcd", (4, 4, "")), (4, 4, ""))

    def test_inverses_at_the_edges(self):
        self.assertEqual(inverse("", (0, 0, "x\ny")), (0, 3, ""))
        self.assertEqual(inverse("abcd", (4, 4, "xy")), (4, 6, ""))
        self.assertEqual(inverse("abcd", (0, 4, "")), (0, 0, "abcd"))

    def test_places_that_do_not_fit(self):
        for text in ("", "a", "abcd", "a\nb\n"):
            many = len(text)
            for start, end in [(-1, 0), (-1, -1), (0, -1), (-1, many), (1, 0), (many, many - 1),
                               (0, many + 1), (many, many + 1), (many + 1, many + 1), (many + 1, many)]:
                self.refuse(text, (start, end, ""))
                self.refuse(text, (start, end, "x"))

    def test_new_strings_with_wrong_characters(self):
        for sign in WRONG:
            for new in (sign, "a" + sign, sign + "\n"):
                self.refuse("abcd", (1, 3, new))
                self.refuse("", (0, 0, new))
        self.assertEqual(apply_edit("ab", (1, 1, " ~\n$&")), "a ~\n$&b")

    def test_the_length_of_the_result(self):
        full = "a" * 4000
        self.assertEqual(apply_edit(full, (0, 1, "b")), "b" + "a" * 3999)
        self.assertEqual(apply_edit("a" * 3999, (3999, 3999, "b")), "a" * 3999 + "b")
        self.assertEqual(apply_edit("", (0, 0, full)), full)
        self.assertEqual(apply_edit(full, (0, 4000, "b" * 4000)), "b" * 4000)
        self.assertEqual(apply_edit(full, (0, 4000, "")), "")
        self.refuse(full, (0, 0, "b"))
        self.refuse(full, (0, 1, "bb"))
        self.refuse(full, (4000, 4000, "\n"))
        self.refuse("a" * 3999, (0, 0, "bb"))
        self.refuse("", (0, 0, "a" * 4001))

    def test_all_small_edits(self):
        for text in words("ab\n", 3):
            for start, end in itertools.product(range(-2, len(text) + 3), repeat=2):
                for new in ("", "a", "b\n", "bb%"):
                    edit = (start, end, new)
                    if not 0 <= start <= end <= len(text) or "%" in new:
                        self.refuse(text, edit)
                        continue
                    after = apply_edit(text, edit)
                    back = inverse(text, edit)
                    self.assertEqual(after, text[:start] + new + text[end:])
                    self.assertEqual(back, (start, start + len(new), text[start:end]))
                    self.assertEqual(apply_edit(after, back), text)


class JointTest(unittest.TestCase):
    def refuse(self, text, edits):
        with self.subTest(length=len(text), edits=edits):
            before = list(edits)
            self.assertRaises(InvalidEdit, apply_joint, text, edits)
            self.assertEqual(edits, before)

    def test_no_edits_and_one(self):
        self.assertEqual(apply_joint("abcd", []), "abcd")
        self.assertEqual(apply_joint("", []), "")
        self.assertEqual(apply_joint("abcd", [(1, 3, "x")]), "axd")

    def test_several_edits_count_in_the_text_before(self):
        text = "0123456789"
        self.assertEqual(apply_joint(text, [(1, 3, "x"), (3, 5, "y")]), "0xy56789")
        self.assertEqual(apply_joint(text, [(0, 1, "xyz"), (2, 3, ""), (9, 10, "\n")]), "xyz1345678\n")
        self.assertEqual(apply_joint(text, [(0, 0, "a"), (5, 5, "b"), (10, 10, "c")]), "a01234b56789c")

    def test_empty_places_beside_each_other(self):
        self.assertEqual(apply_joint("ab", [(1, 1, "x"), (1, 1, "y"), (1, 1, "z")]), "axyzb")
        self.assertEqual(apply_joint("ab", [(0, 1, "x"), (1, 1, "y"), (1, 2, "z")]), "xyz")

    def test_edits_that_are_not_in_order(self):
        self.refuse("0123456789", [(3, 5, "y"), (1, 3, "x")])
        self.refuse("0123456789", [(5, 5, ""), (4, 4, "")])
        self.refuse("0123456789", [(1, 4, "x"), (3, 5, "y")])
        self.refuse("0123456789", [(1, 4, "x"), (3, 3, "")])
        self.refuse("0123456789", [(1, 4, "x"), (1, 4, "x")])
        self.refuse("0123456789", [(1, 2, ""), (2, 3, ""), (2, 4, "")])

    def test_places_that_do_not_fit(self):
        for edits in ([(-1, 0, "")], [(2, 1, "")], [(0, 5, "")], [(5, 5, "")], [(5, 4, "")],
                      [(0, 1, "x"), (4, 5, "")], [(0, 1, "x"), (3, 2, "")], [(0, 0, ""), (5, 6, "")],
                      [(-2, -1, ""), (0, 1, "")]):
            self.refuse("abcd", edits)

    def test_wrong_characters(self):
        for sign in WRONG:
            self.refuse("abcd", [(0, 1, "x"), (2, 2, sign)])
            self.refuse("abcd", [(0, 1, "x" + sign), (2, 2, "")])

    def test_the_length_of_the_result(self):
        full = "a" * 4000
        self.assertEqual(apply_joint("a" * 3998, [(0, 0, "x"), (9, 9, "y")]),
                         "x" + "a" * 9 + "y" + "a" * 3989)
        self.refuse("a" * 3998, [(0, 0, "x"), (9, 9, "yz")])
        self.refuse(full, [(0, 0, "x"), (4000, 4000, "")])
        self.refuse("", [(0, 0, full), (0, 0, "x")])

    def test_a_text_that_fits_only_at_the_end(self):
        full = "a" * 3900 + "b" * 100
        self.assertEqual(apply_joint(full, [(0, 0, "x" * 100), (3900, 4000, "")]), "x" * 100 + "a" * 3900)
        self.refuse(full, [(0, 0, "x" * 101), (3900, 4000, "")])
        self.assertEqual(apply_joint("a" * 4000, [(0, 0, "x" * 4000), (0, 4000, "")]), "x" * 4000)

    def test_all_small_pairs(self):
        text = "ab\n"
        places = list(itertools.product(range(-1, 5), repeat=2))
        for (one, two), (three, four) in itertools.product(places, repeat=2):
            edits = [(one, two, "xy"), (three, four, "")]
            if 0 <= one <= two <= three <= four <= 3:
                expected = text[:one] + "xy" + text[two:three] + text[four:]
                self.assertEqual(apply_joint(text, edits), expected)
            else:
                self.refuse(text, edits)

    def test_the_edits_stay_as_they_were(self):
        edits = [(0, 1, "x"), (2, 3, "y")]
        self.assertEqual(apply_joint("abc", edits), "xby")
        self.assertEqual(edits, [(0, 1, "x"), (2, 3, "y")])


class DifferenceTest(unittest.TestCase):
    def test_the_example(self):
        self.assertEqual(difference("aXc", "aYYc"), (1, 2, "YY"))

    def test_equal_texts(self):
        self.assertEqual(difference("", ""), (0, 0, ""))
        self.assertEqual(difference("aaa", "aaa"), (3, 3, ""))
        self.assertEqual(difference("a\nb\n", "a\nb\n"), (4, 4, ""))

    def test_one_text_is_empty(self):
        self.assertEqual(difference("", "abc"), (0, 0, "abc"))
        self.assertEqual(difference("abc", ""), (0, 3, ""))

    def test_a_beginning_or_an_end_of_the_other(self):
        self.assertEqual(difference("ab", "abcd"), (2, 2, "cd"))
        self.assertEqual(difference("abcd", "ab"), (2, 4, ""))
        self.assertEqual(difference("cd", "abcd"), (0, 0, "ab"))
        self.assertEqual(difference("abcd", "cd"), (0, 2, ""))

    def test_one_repeated_character(self):
        self.assertEqual(difference("aaa", "aa"), (2, 3, ""))
        self.assertEqual(difference("aa", "aaa"), (2, 2, "a"))
        self.assertEqual(difference("a" * 4000, "a"), (1, 4000, ""))

    def test_beginning_and_end_do_not_overlap(self):
        self.assertEqual(difference("abab", "ab"), (2, 4, ""))
        self.assertEqual(difference("aba", "ababa"), (3, 3, "ba"))
        self.assertEqual(difference("xaby", "xaaby"), (2, 2, "a"))

    def test_all_small_pairs(self):
        for old, new in itertools.product(list(words("ab", 5)), repeat=2):
            edit = difference(old, new)
            self.assertEqual(apply_edit(old, edit), new)
            least = min(len(old), len(new))
            start = max(k for k in range(least + 1) if old[:k] == new[:k])
            one, other = old[start:], new[start:]
            behind = max(k for k in range(min(len(one), len(other)) + 1) if one.endswith(other[len(other) - k:]))
            self.assertEqual(edit, (start, len(old) - behind, new[start:len(new) - behind]))


class LineTest(unittest.TestCase):
    def check(self, text, rows):
        self.assertEqual([line_column(text, at) for at in range(len(text) + 1)], rows)
        self.assertEqual([offset_at(text, line, column) for line, column in rows], list(range(len(text) + 1)))

    def test_the_empty_text(self):
        self.check("", [(0, 0)])

    def test_a_text_without_a_newline(self):
        self.check("ab", [(0, 0), (0, 1), (0, 2)])

    def test_the_newline_belongs_to_its_line(self):
        self.check("ab\n", [(0, 0), (0, 1), (0, 2), (1, 0)])
        self.check("a\nbc", [(0, 0), (0, 1), (1, 0), (1, 1), (1, 2)])

    def test_empty_lines(self):
        self.check("\n\na\n\n", [(0, 0), (1, 0), (2, 0), (2, 1), (3, 0), (4, 0)])
        self.check("\n", [(0, 0), (1, 0)])

    def test_columns_that_are_too_great(self):
        self.assertEqual(offset_at("ab\ncde\n", 0, 3), 2)
        self.assertEqual(offset_at("ab\ncde\n", 0, 4000), 2)
        self.assertEqual(offset_at("ab\ncde\n", 1, 4), 6)
        self.assertEqual(offset_at("ab\ncde\n", 2, 1), 7)
        self.assertEqual(offset_at("ab\ncde", 1, 4), 6)
        self.assertEqual(offset_at("\n\n", 1, 1), 1)
        self.assertEqual(offset_at("", 0, 1), 0)

    def test_lines_that_are_too_great(self):
        self.assertEqual(offset_at("ab\ncde\n", 3, 0), 7)
        self.assertEqual(offset_at("ab\ncde\n", 4000, 9), 7)
        self.assertEqual(offset_at("ab\ncde", 2, 0), 3)
        self.assertEqual(offset_at("ab\ncde", 2, 2), 5)
        self.assertEqual(offset_at("ab\ncde", 9, 9), 6)
        self.assertEqual(offset_at("", 1, 0), 0)
        self.assertEqual(offset_at("", 9, 9), 0)

    def test_all_small_texts(self):
        for text in words("ab\n", 4):
            lines = text.split("\n")
            for at in range(len(text) + 1):
                line, column = line_column(text, at)
                self.assertEqual("\n".join(lines[:line] + [lines[line][:column]]), text[:at])
                self.assertEqual(offset_at(text, line, column), at)


if __name__ == "__main__":
    unittest.main()

"""Points 7 and 8: tokens, and tokens after an edit."""

import itertools
import re
import unittest

from samenames.texts import apply_edit
from samenames.tokens import is_name, number_value, relexed, tokens

WORDS = ("import data trait with impl for def let in if then else loop times do not and or True False").split()
PATTERN = re.compile(r"(?P<none>[ \n]|#[^\n]*)|(?P<name>[A-Za-z][A-Za-z0-9_]*)|(?P<number>[0-9]+)"
                     r"|(?P<sign>==|[]()[,:.=<+*/-])|(?P<wrong>.)", re.DOTALL)


def expected_tokens(text):
    """The tokens of a text, found in another way than the program finds them."""
    found = []
    for match in PATTERN.finditer(text):
        sort = match.lastgroup
        if sort == "name" and match.group() in WORDS:
            sort = "word"
        if sort != "none":
            found.append((sort, match.start(), match.end()))
    return found


class TokensTest(unittest.TestCase):
    def test_the_example(self):
        self.assertEqual(tokens("x1 = 12 # note"), [("name", 0, 2), ("sign", 3, 4), ("number", 5, 7)])

    def test_no_tokens(self):
        for text in ("", " ", "\n", " \n\n  ", "#", "# a b 1 =", "#\n#a\n  # x\n"):
            self.assertEqual(tokens(text), [])

    def test_each_word(self):
        self.assertEqual(len(WORDS), 20)
        for word in WORDS:
            many = len(word)
            self.assertEqual(tokens(word), [("word", 0, many)])
            self.assertEqual(tokens(" " + word + ":"), [("word", 1, many + 1), ("sign", many + 1, many + 2)])

    def test_names_that_are_not_quite_a_word(self):
        for word in WORDS:
            for name in (word + "s", word + "_", word + "1", "a" + word, word + word, word + "A"):
                self.assertEqual(tokens(name), [("name", 0, len(name))])
            for name in (word.upper(), word.lower(), word.title(), word[:-1]):
                if name not in WORDS:
                    self.assertEqual(tokens(name), [("name", 0, len(name))])

    def test_words_of_other_languages_are_names(self):
        for name in ("while", "return", "elif", "is", "none", "None", "true", "false", "fun", "kind", "Int", "Bool"):
            self.assertEqual(tokens(name), [("name", 0, len(name))])

    def test_letters(self):
        for letter in "abcdefghijklmnopqrstuvwxyzABCDEFGHIJKLMNOPQRSTUVWXYZ":
            self.assertEqual(tokens(letter), [("name", 0, 1)])
            self.assertEqual(tokens("q" + letter + "q"), [("name", 0, 3)])

    def test_each_sign(self):
        for sign in "()[],:.=<+-*/":
            self.assertEqual(tokens(sign), [("sign", 0, 1)])
            self.assertEqual(tokens("a" + sign + "1"), [("name", 0, 1), ("sign", 1, 2), ("number", 2, 3)])

    def test_equal_signs(self):
        self.assertEqual(tokens("=="), [("sign", 0, 2)])
        self.assertEqual(tokens("==="), [("sign", 0, 2), ("sign", 2, 3)])
        self.assertEqual(tokens("===="), [("sign", 0, 2), ("sign", 2, 4)])
        self.assertEqual(tokens("= ="), [("sign", 0, 1), ("sign", 2, 3)])
        self.assertEqual(tokens("=\n="), [("sign", 0, 1), ("sign", 2, 3)])
        self.assertEqual(tokens("<=="), [("sign", 0, 1), ("sign", 1, 3)])
        self.assertEqual(tokens("a=b==c"), [("name", 0, 1), ("sign", 1, 2), ("name", 2, 3), ("sign", 3, 5),
                                            ("name", 5, 6)])

    def test_underscores_and_digits_in_names(self):
        self.assertEqual(tokens("a_1b__2"), [("name", 0, 7)])
        self.assertEqual(tokens("_a"), [("wrong", 0, 1), ("name", 1, 2)])
        self.assertEqual(tokens("__"), [("wrong", 0, 1), ("wrong", 1, 2)])
        self.assertEqual(tokens("1_a"), [("number", 0, 1), ("wrong", 1, 2), ("name", 2, 3)])

    def test_digits_followed_by_letters(self):
        self.assertEqual(tokens("12ab3"), [("number", 0, 2), ("name", 2, 5)])
        self.assertEqual(tokens("0if1"), [("number", 0, 1), ("name", 1, 4)])
        self.assertEqual(tokens("007 8"), [("number", 0, 3), ("number", 4, 5)])
        self.assertEqual(tokens("1.2"), [("number", 0, 1), ("sign", 1, 2), ("number", 2, 3)])

    def test_comments(self):
        self.assertEqual(tokens("a# b\nc"), [("name", 0, 1), ("name", 5, 6)])
        self.assertEqual(tokens("a# b"), [("name", 0, 1)])
        self.assertEqual(tokens("a # b # c\n\n#\nd"), [("name", 0, 1), ("name", 13, 14)])
        self.assertEqual(tokens("1#2"), [("number", 0, 1)])
        self.assertEqual(tokens("=#="), [("sign", 0, 1)])

    def test_wrong_characters(self):
        for sign in "!\"$&'>;?@\\^_`{|}~":
            self.assertEqual(tokens(sign), [("wrong", 0, 1)])
            self.assertEqual(tokens(sign + sign), [("wrong", 0, 1), ("wrong", 1, 2)])
            self.assertEqual(tokens(sign + "a"), [("wrong", 0, 1), ("name", 1, 2)])

    def test_characters_that_may_not_stand_in_a_text_are_any_other_character(self):
        for sign in "%\t\r\x00\x7f\xe9\u0661\u0430":
            self.assertEqual(tokens(sign), [("wrong", 0, 1)])
            self.assertEqual(tokens("a" + sign), [("name", 0, 1), ("wrong", 1, 2)])
            self.assertEqual(tokens("1" + sign), [("number", 0, 1), ("wrong", 1, 2)])

    def test_each_character_that_may_stand(self):
        for one, two in itertools.product([chr(code) for code in range(32, 127) if code != 37] + ["\n"], repeat=2):
            self.assertEqual(tokens(one + two), expected_tokens(one + two))

    def test_all_small_texts(self):
        for length in range(6):
            for row in itertools.product("aF_1 \n#=!", repeat=length):
                text = "".join(row)
                self.assertEqual(tokens(text), expected_tokens(text))

    def test_a_long_text(self):
        self.assertEqual(tokens("a" * 4000), [("name", 0, 4000)])
        self.assertEqual(tokens("9" * 4000), [("number", 0, 4000)])
        self.assertEqual(tokens("=" * 3999), expected_tokens("=" * 3999))
        self.assertEqual(tokens("#" * 3998 + "\nb"), [("name", 3999, 4000)])

    def test_the_list_is_new_at_each_call(self):
        first = tokens("a b")
        first.append("more")
        self.assertEqual(tokens("a b"), [("name", 0, 1), ("name", 2, 3)])


class NumberValueTest(unittest.TestCase):
    def test_values(self):
        for digits, value in [("0", 0), ("7", 7), ("007", 7), ("1234567890", 1234567890), ("4294967295", 4294967295),
                              ("4294967296", 0), ("4294967297", 1), ("8589934593", 1), ("0" * 50 + "12", 12)]:
            self.assertEqual(number_value(digits), value)

    def test_as_many_digits_as_a_text_can_hold(self):
        self.assertEqual(number_value("9" * 4000), (pow(10, 4000, 4294967296) - 1) % 4294967296)
        self.assertEqual(number_value("1" + "0" * 3999), 0)


class IsNameTest(unittest.TestCase):
    def test_names(self):
        for value in ("a", "Z", "a1", "a_", "point_2d", "iff", "TRUE", "true", "importing", "a" * 4000):
            self.assertIs(is_name(value), True)

    def test_what_is_no_name(self):
        for value in ("", " ", "\n", "#", "_", "_a", "1", "12", "1a", "a b", "a.b", "a,", "=", "a!", "!", "a\tb", "a\t",
                      "\xe9", "a\xe9", "\u0430", "\u0661", "a\u0661", "a\xb2", "a%"):
            with self.subTest(value=value):
                self.assertIs(is_name(value), False)

    def test_words(self):
        for word in WORDS:
            self.assertIs(is_name(word), False)

    def test_blanks_and_comments_around_a_name(self):
        for value in (" a", "a ", "\na", "a\n", "#c\na", "a#c", "a #c", "a#", " a "):
            self.assertIs(is_name(value), False)


class RelexedTest(unittest.TestCase):
    def check(self, text, edit):
        start, end, new = edit
        old = tokens(text)
        before = list(old)
        after = apply_edit(text, edit)
        first, last = text.count("\n", 0, start), text.count("\n", 0, end)
        lines = [text.count("\n", 0, token[1]) for token in old]
        expected = (expected_tokens(after), len([line for line in lines if line < first]),
                    len([line for line in lines if line > last]))
        found = relexed(text, old, edit)
        self.assertEqual(found, expected, (text, edit))
        self.assertIsNot(found[0], old)
        self.assertEqual(old, before)

    def check_all(self, text, pieces):
        for start in range(len(text) + 1):
            for end in range(start, len(text) + 1):
                for new in pieces:
                    self.check(text, (start, end, new))

    def test_an_example(self):
        text = "a = 1\nb = 2\nc = 3\n"
        found = relexed(text, tokens(text), (10, 11, "45"))
        self.assertEqual(found, (tokens("a = 1\nb = 45\nc = 3\n"), 3, 3))
        self.assertEqual(found[0][6:], [("name", 13, 14), ("sign", 15, 16), ("number", 17, 18)])

    def test_an_edit_within_a_line_keeps_the_other_lines(self):
        text = "a\nb b\nc\n"
        self.assertEqual(relexed(text, tokens(text), (3, 3, "")), (tokens(text), 1, 1))
        self.assertEqual(relexed(text, tokens(text), (0, 0, "")), (tokens(text), 0, 3))
        self.assertEqual(relexed(text, tokens(text), (8, 8, "")), (tokens(text), 4, 0))

    def test_the_newline_belongs_to_the_line_before_it(self):
        text = "a\nb\nc"
        # Put in before the newline of the first line, and taken out with it.
        self.assertEqual(relexed(text, tokens(text), (1, 1, "x")), (tokens("ax\nb\nc"), 0, 2))
        self.assertEqual(relexed(text, tokens(text), (1, 2, "")), (tokens("ab\nc"), 0, 1))
        # An edit that ends at the start of a line ends in this line.
        self.assertEqual(relexed(text, tokens(text), (0, 2, "z\n")), (tokens("z\nb\nc"), 0, 1))

    def test_comments_that_come_and_go(self):
        self.assertEqual(relexed("a b\nc", tokens("a b\nc"), (0, 0, "#")), ([("name", 5, 6)], 0, 1))
        self.assertEqual(relexed("#a b\nc", [("name", 5, 6)], (0, 1, "")), (tokens("a b\nc"), 0, 1))
        self.assertEqual(relexed("#a\nb\nc", tokens("#a\nb\nc"), (2, 3, "")), (tokens("#ab\nc"), 0, 1))

    def test_no_tokens_and_empty_texts(self):
        self.assertEqual(relexed("", [], (0, 0, "")), ([], 0, 0))
        self.assertEqual(relexed("", [], (0, 0, "a\nb")), (tokens("a\nb"), 0, 0))
        self.assertEqual(relexed("a\nb", tokens("a\nb"), (0, 3, "")), ([], 0, 0))
        self.assertEqual(relexed("\n\n", [], (1, 1, "a")), ([("name", 1, 2)], 0, 0))

    def test_every_place_of_small_texts(self):
        pieces = ["", "a", "#", "\n", "=", " ", "x\n#y\nz", "\n\n", "# \n1"]
        for text in ("a=b\nc #d\n\n==1\n", "if a\n#b\n 2c", "\n\na\n\n", "a", "#", "\n", "a1\n=\n=#\nb"):
            self.check_all(text, pieces)

    def test_every_place_of_all_tiny_texts(self):
        for length in range(5):
            for row in itertools.product("a\n#=", repeat=length):
                self.check_all("".join(row), ["", "a", "\n", "#", "=\n"])

    def test_the_list_is_new_also_if_nothing_changes(self):
        old = tokens("a b")
        found = relexed("a b", old, (3, 3, ""))[0]
        found.append("more")
        self.assertEqual(old, [("name", 0, 1), ("name", 2, 3)])

    def test_a_full_text(self):
        text = "ab = 1\n" * 571 + "abc"
        self.assertEqual(len(text), 4000)
        self.check(text, (0, 1, "x"))
        self.check(text, (2000, 2500, "#\n" * 250))
        self.check(text, (3999, 4000, "#"))


if __name__ == "__main__":
    unittest.main()

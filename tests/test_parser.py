"""Points 10 to 13: reading items and values."""

import ast
import random
import unittest

from samenames.errors import SyntaxProblem
from samenames.parser import read_item, read_value
from samenames.tokens import tokens
from samenames.trees import nodes
from tests.grammar import failure


def printed(tree):
    """A tree without places, with brackets around each part."""
    word = tree[0]
    if word in ("number", "truth", "name"):
        return str(tree[3])
    if word == "call":
        return tree[3] + "(" + ", ".join(printed(part) for part in tree[4]) + ")"
    if word == "field":
        return "[" + printed(tree[3]) + "." + tree[4] + "]"
    if word == "group":
        return "(" + printed(tree[3]) + ")"
    if word == "binary":
        return "[" + printed(tree[4]) + " " + tree[3] + " " + printed(tree[5]) + "]"
    if word in ("not", "minus"):
        return "[" + word + " " + printed(tree[3]) + "]"
    if word == "if":
        return "[if " + printed(tree[3]) + " then " + printed(tree[4]) + " else " + printed(tree[5]) + "]"
    if word == "let":
        return "[let " + tree[3] + " = " + printed(tree[5]) + " in " + printed(tree[6]) + "]"
    return ("[loop " + tree[3] + " = " + printed(tree[5]) + " times " + printed(tree[6]) + " do "
            + printed(tree[7]) + "]")


def random_operands(chance, closes):
    """The text of operands with signs between and before them, and brackets that may be wrong."""
    row = []
    around = 0
    for _ in range(chance.randrange(1, 8)):
        while chance.random() < 0.25:
            row.append(chance.choice(["not", "-", "("]))
            around += row[-1] == "("
        row.append(chance.choice(["a", "1", "f(b)", "a.b", "True"]))
        while chance.random() < 0.2 and (around or not closes):
            row.append(")")
            around -= 1
        row.append(chance.choice(["or", "and", "==", "<", "+", "-", "*", "/"]))
    return " ".join(row[:-1] + [")"] * (around if closes else 0))


def bracketed(tree):
    """The text of a tree with brackets around each part, for another reader of values."""
    if tree[0] == "binary":
        return "((" + bracketed(tree[4]) + ") " + tree[3] + " (" + bracketed(tree[5]) + "))"
    if tree[0] in ("not", "minus", "group"):
        return {"not": "(not ", "minus": "(- ", "group": "("}[tree[0]] + bracketed(tree[3]) + ")"
    if tree[0] == "field":
        return "((" + bracketed(tree[3]) + ")." + tree[4] + ")"
    return {"number": "1", "truth": "True", "name": "a", "call": "f(b)"}[tree[0]]


class Nested(ast.NodeTransformer):
    """Makes `a or b or c` of Python two steps."""

    def visit_BoolOp(self, node):
        self.generic_visit(node)
        found = node.values[0]
        for value in node.values[1:]:
            found = ast.BoolOp(node.op, [found, value])
        return found


def python_tree(text):
    return ast.dump(Nested().visit(ast.parse(text, mode="eval")))


class ReadingTest(unittest.TestCase):
    def fails(self, read, text, start, end):
        with self.assertRaises(SyntaxProblem) as caught:
            read(text)
        self.assertEqual((caught.exception.start, caught.exception.end), (start, end), repr(text))

    def item_fails(self, text, part, at=0):
        """Reading the item fails at the part, which is looked for from the offset on."""
        start = text.index(part, at)
        self.fails(read_item, text, start, start + len(part))

    def value_fails(self, text, part, at=0):
        start = text.index(part, at)
        self.fails(read_value, text, start, start + len(part))

    def reads(self, text, expected):
        self.assertEqual(printed(read_value(text)), expected)


class ItemTest(ReadingTest):
    def test_the_examples(self):
        self.assertEqual(read_item("import shapes: area, Point\n"),
                         ("import", ("shapes", 7), (("area", 15), ("Point", 21))))
        self.assertEqual(read_item("def twice(n: Int) = n + n\n")[5],
                         ("binary", 20, 25, "+", ("name", 20, 21, "n"), ("name", 24, 25, "n")))

    def test_blank(self):
        for text in ("# a comment", "#\n", "# def f() = 1\n  # more\n\n", ""):
            self.assertEqual(read_item(text), ("blank",))

    def test_import(self):
        self.assertEqual(read_item("import a: b"), ("import", ("a", 7), (("b", 10),)))
        self.assertEqual(read_item("import a\n :b # c, d\n ,e\n"), ("import", ("a", 7), (("b", 11), ("e", 22))))

    def test_data(self):
        self.assertEqual(read_item("data D()"), ("data", ("D", 5), ()))
        self.assertEqual(read_item("data D(x: Int)"), ("data", ("D", 5), ((("x", 7), ("Int", 10)),)))
        self.assertEqual(read_item("data D(x: Int, y: E)"),
                         ("data", ("D", 5), ((("x", 7), ("Int", 10)), (("y", 15), ("E", 18)))))

    def test_trait(self):
        self.assertEqual(read_item("trait T with m(s): K"), ("trait", ("T", 6), ("m", 13), ("s", 15), (), ("K", 19)))
        self.assertEqual(read_item("trait T with m(s, a: A, b: B): K"),
                         ("trait", ("T", 6), ("m", 13), ("s", 15),
                          ((("a", 18), ("A", 21)), (("b", 24), ("B", 27))), ("K", 31)))

    def test_impl(self):
        self.assertEqual(read_item("impl T for D = 1"), ("impl", ("T", 5), ("D", 11), ("number", 15, 16, 1)))

    def test_def(self):
        value = ("number", 10, 11, 1)
        self.assertEqual(read_item("def f() = 1"), ("def", ("f", 4), (), (), None, value))
        value = ("number", 14, 15, 1)
        self.assertEqual(read_item("def f() : K=1 "), ("def", ("f", 4), (), (), ("K", 10), ("number", 12, 13, 1)))
        self.assertEqual(read_item("def f[T](a:T)=1"),
                         ("def", ("f", 4), ((("T", 6), None),), ((("a", 9), ("T", 11)),), None, value))
        self.assertEqual(read_item("def f[T: R]() = 1"),
                         ("def", ("f", 4), ((("T", 6), ("R", 9)),), (), None, ("number", 16, 17, 1)))
        self.assertEqual(read_item("def f[T, U: R, V](a: T, b: Int): U = 1"),
                         ("def", ("f", 4), ((("T", 6), None), (("U", 9), ("R", 12)), (("V", 15), None)),
                          ((("a", 18), ("T", 21)), (("b", 24), ("Int", 27))), ("U", 33), ("number", 37, 38, 1)))

    def test_spaces_newlines_and_comments(self):
        plain = "def f[T: R](a: T, b: Int): Int = if a then f(b, 1).x else - 2"
        wide = "\n # note : = (\n ".join(plain[start:end] for _, start, end in tokens(plain)) + "\n # end"
        found = read_item(wide)
        self.assertEqual([row[0] for row in (found[1],) + (found[4],)], ["f", "Int"])
        self.assertEqual(printed(found[5]), printed(read_item(plain)[5]))
        self.assertEqual(wide[found[1][1]:found[1][1] + 1], "f")

    def test_failures_of_items(self):
        self.item_fails("x = 1", "x")
        self.item_fails("(", "(")
        self.item_fails("let x = 1 in x", "let")
        self.item_fails("7", "7")
        self.item_fails("!", "!")
        self.item_fails("import : a", ":")
        self.item_fails("import a, b", ",")
        self.item_fails("import a: 1", "1")
        self.item_fails("import a: b c", "c")
        self.item_fails("import a: b,, c", ",", 12)
        self.item_fails("import data: b", "data")
        self.item_fails("data 1()", "1")
        self.item_fails("data D[", "[")
        self.item_fails("data D(x)", ")")
        self.item_fails("data D(x: Int,)", ")")
        self.item_fails("data D(x: Int y: Int)", "y")
        self.item_fails("data D() = 1", "=")
        self.item_fails("data D() ?", "?")
        self.item_fails("trait T for m(s): K", "for")
        self.item_fails("trait T with m(): K", ")")
        self.item_fails("trait T with m(s: Int): K", ":")
        self.item_fails("trait T with m(s, a): K", ")")
        self.item_fails("trait T with m(s) = K", "=")
        self.item_fails("trait T with m(s): K = 1", "=")
        self.item_fails("impl T with D = 1", "with")
        self.item_fails("impl T for D: Int = 1", ":")
        self.item_fails("impl T for D == 1", "==")
        self.item_fails("def f = 1", "=")
        self.item_fails("def f[]() = 1", "]")
        self.item_fails("def f[T:](a: T) = 1", "]")
        self.item_fails("def f[T,](a: T) = 1", "]")
        self.item_fails("def f[T] = 1", "=")
        self.item_fails("def f(a Int) = 1", "Int")
        self.item_fails("def f(): = 1", "=")
        self.item_fails("def f(): K == 1", "==")
        self.item_fails("def f() = 1 def g() = 2", "def", 5)
        self.item_fails("def f() = 1)", ")", 8)
        self.item_fails("def f() = 1 2", "2")
        self.item_fails("def f() = a_ _a", "_", 13)
        self.item_fails("def f() = 1 $", "$")

    def test_tokens_that_end_too_early(self):
        for text in ("import", "import a", "import a:", "import a: b,", "data", "data D", "data D(", "data D(x",
                     "data D(x:", "data D(x: K", "data D(x: K,", "trait", "trait T", "trait T with",
                     "trait T with m", "trait T with m(", "trait T with m(s", "trait T with m(s,",
                     "trait T with m(s, a: K", "trait T with m(s)", "trait T with m(s):", "impl", "impl T",
                     "impl T for", "impl T for D", "impl T for D =", "def", "def f", "def f[", "def f[T",
                     "def f[T:", "def f[T: R", "def f[T]", "def f(", "def f()", "def f():", "def f(): K",
                     "def f() =", "def f() = 1 +", "def f() = f(", "def f() = f(1", "def f() = f(1,",
                     "def f() = (", "def f() = (1", "def f() = a.", "def f() = not", "def f() = -",
                     "def f() = let", "def f() = let x", "def f() = let x = 1", "def f() = let x = 1 in",
                     "def f() = if a", "def f() = if a then 1", "def f() = if a then 1 else",
                     "def f() = loop x = 1", "def f() = loop x = 1 times 2", "def f() = loop x = 1 times 2 do"):
            for tail in ("", "\n", " # note\n  "):
                self.fails(read_item, text + tail, len(text), len(text))

    def test_like_the_grammar(self):
        words = ("import data trait with impl for def let in if then else loop times do not and or True False x y "
                 "a a 7 ( ) ( ) [ ] , : . = < + - * / == !").split()
        seeds = ["def f(a: Int) = a + b * c == d and not e or g(1, x).y", "import m: a, b", "data D(x: Int, y: B)",
                 "trait T with m(self, by: Int): Int", "impl T for D = let x = 1 in - x",
                 "def f[T: R, U](a: Int, b: T): K = if a then b else loop x = 1 times 2 do not x < 3"]
        chance = random.Random(11)
        for _ in range(700):
            seed = chance.choice(seeds)
            row = [seed[start:end] for _, start, end in tokens(seed)]
            for _ in range(chance.randrange(4)):
                at = chance.randrange(len(row))
                row[at:at + chance.randrange(2)] = chance.choices(words, k=chance.randrange(2))
                row = row or ["def"]
            text = " ".join(row)
            for read, rule in ((read_item, "item"), (read_value, "value")):
                part = text.split("= ", 1)[-1] if rule == "value" else text
                place = failure(part, tokens(part), rule)
                if place is None:
                    read(part)
                else:
                    self.fails(read, part, *place)


class ValueTest(ReadingTest):
    def test_places_of_each_form(self):
        self.assertEqual(read_value(" 12 "), ("number", 1, 3, 12))
        self.assertEqual(read_value("True"), ("truth", 0, 4, True))
        self.assertIs(read_value("False")[3], False)
        self.assertEqual(read_value("ab"), ("name", 0, 2, "ab"))
        self.assertEqual(read_value("f( )"), ("call", 0, 4, "f", ()))
        self.assertEqual(read_value("f(1, a)"), ("call", 0, 7, "f", (("number", 2, 3, 1), ("name", 5, 6, "a"))))
        self.assertEqual(read_value("a . b"), ("field", 0, 5, ("name", 0, 1, "a"), "b"))
        self.assertEqual(read_value("( a )"), ("group", 0, 5, ("name", 2, 3, "a")))
        self.assertEqual(read_value("not a"), ("not", 0, 5, ("name", 4, 5, "a")))
        self.assertEqual(read_value("- a"), ("minus", 0, 3, ("name", 2, 3, "a")))
        self.assertEqual(read_value("if a then b else c"),
                         ("if", 0, 18, ("name", 3, 4, "a"), ("name", 10, 11, "b"), ("name", 17, 18, "c")))
        self.assertEqual(read_value("let x = a in b"),
                         ("let", 0, 14, "x", 4, ("name", 8, 9, "a"), ("name", 13, 14, "b")))
        self.assertEqual(read_value("loop x = a times b do c"),
                         ("loop", 0, 23, "x", 5, ("name", 9, 10, "a"), ("name", 17, 18, "b"), ("name", 22, 23, "c")))

    def test_brackets_belong_to_the_places_of_what_is_around(self):
        self.assertEqual(read_value("(a) + (b)"),
                         ("binary", 0, 9, "+", ("group", 0, 3, ("name", 1, 2, "a")),
                          ("group", 6, 9, ("name", 7, 8, "b"))))
        self.assertEqual(read_value("(a).b")[:3], ("field", 0, 5))
        self.assertEqual(read_value("((1))"), ("group", 0, 5, ("group", 1, 4, ("number", 2, 3, 1))))

    def test_every_tree_has_its_own_place(self):
        text = "let x = f((a), - b.c) in if not (x) == 2 or True then loop y = 1 times 2 do y * x - 3 / z else g()"
        places = [node[1:3] for node in nodes(read_value(text))]
        self.assertEqual(len(set(places)), len(places))

    def test_binary_signs(self):
        for sign in ("or", "and", "==", "<", "+", "-", "*", "/"):
            self.assertEqual(read_value("a " + sign + " b")[3], sign)

    def test_chains_associate_to_the_left(self):
        self.reads("a - b - c", "[[a - b] - c]")
        self.reads("a - b + c - d", "[[[a - b] + c] - d]")
        self.reads("a / b * c / d", "[[[a / b] * c] / d]")
        self.reads("a or b or c", "[[a or b] or c]")
        self.reads("a and b and c", "[[a and b] and c]")
        self.reads("a - (b - c)", "[a - ([b - c])]")
        self.reads("a.b.c.d", "[[[a.b].c].d]")

    def test_ranks(self):
        ranks = {"or": 1, "and": 2, "==": 4, "<": 4, "+": 5, "-": 5, "*": 6, "/": 6}
        for one in ranks:
            for other in ranks:
                text = "a " + one + " b " + other + " c"
                if ranks[one] == ranks[other] == 4:
                    self.value_fails(text, other, 4)
                elif ranks[one] >= ranks[other]:
                    self.reads(text, "[[a " + one + " b] " + other + " c]")
                else:
                    self.reads(text, "[a " + one + " [b " + other + " c]]")

    def test_mixtures_like_the_grammar(self):
        chance = random.Random(3)
        for number in range(1500):
            text = random_operands(chance, number % 2)
            place = failure(text, tokens(text), "value")
            if place is None:
                read_value(text)
            else:
                self.fails(read_value, text, *place)

    def test_mixtures_like_python(self):
        # The signs have the same ranks there; only comparisons in a row and the place of "not" differ.
        chance = random.Random(4)
        many = 0
        for _ in range(1500):
            text = random_operands(chance, True)
            if failure(text, tokens(text), "value") is None:
                many += 1
                self.assertEqual(python_tree(bracketed(read_value(text))), python_tree(text), text)
        self.assertGreater(many, 300)

    def test_long_mixtures(self):
        self.reads("a or b and c == d + e * f", "[a or [b and [c == [d + [e * f]]]]]")
        self.reads("a * b + c == d and e or f", "[[[[[a * b] + c] == d] and e] or f]")
        self.reads("a == b and c < d or e == f", "[[[a == b] and [c < d]] or [e == f]]")

    def test_comparisons_are_not_compared(self):
        self.value_fails("a == b == c", "==", 3)
        self.value_fails("a < b < c", "<", 3)
        self.value_fails("a < b == c", "==")
        self.value_fails("(a == b == c)", "==", 4)
        self.value_fails("not a == b < c", "<")
        self.value_fails("not not a < b < c", "<", 12)
        self.value_fails("a and b < c + d * e < f", "<", 10)
        self.reads("(a == b) == c", "[([a == b]) == c]")
        self.reads("a == (b == c)", "[a == ([b == c])]")

    def test_not(self):
        self.reads("not a", "[not a]")
        self.reads("not not a", "[not [not a]]")
        self.reads("not a == b", "[not [a == b]]")
        self.reads("not a + b * c", "[not [a + [b * c]]]")
        self.reads("not a and b", "[[not a] and b]")
        self.reads("not a or not b", "[[not a] or [not b]]")
        self.reads("a and not not b and c", "[[a and [not [not b]]] and c]")
        self.value_fails("a == not b", "not")
        self.value_fails("a + not b", "not")
        self.value_fails("a * not b", "not")
        self.value_fails("- not b", "not")

    def test_minus(self):
        self.reads("- - a", "[minus [minus a]]")
        self.reads("--a", "[minus [minus a]]")
        self.reads("-a.b", "[minus [a.b]]")
        self.reads("-a * -b", "[[minus a] * [minus b]]")
        self.reads("-a + b", "[[minus a] + b]")
        self.reads("a - - b", "[a - [minus b]]")
        self.reads("a == - b", "[a == [minus b]]")
        self.reads("not - a", "[not [minus a]]")
        self.value_fails("+ a", "+")

    def test_fields(self):
        self.reads("f(a).b", "[f(a).b]")
        self.reads("f(a).b.c", "[[f(a).b].c]")
        self.reads("(a + b).c", "[([a + b]).c]")
        self.reads("1.b", "[1.b]")
        self.value_fails("a.1", "1")
        self.value_fails("a.(b)", "(")
        self.value_fails("a.let", "let")
        self.value_fails("a.b(c)", "(")
        self.value_fails("(f)(a)", "(", 3)

    def test_calls(self):
        self.reads("f()", "f()")
        self.reads("f(g(h()), let x = 1 in x, (2))", "f(g(h()), [let x = 1 in x], (2))")
        self.value_fails("f(,)", ",")
        self.value_fails("f(a,)", ")")
        self.value_fails("f(a b)", "b")
        self.value_fails("f(a", "", 3)
        self.value_fails("1(a)", "(")

    def test_let_if_and_loop_where_they_may_stand(self):
        self.reads("f(let x = 1 in x, if a then b else c, loop y = 1 times 2 do y)",
                   "f([let x = 1 in x], [if a then b else c], [loop y = 1 times 2 do y])")
        self.reads("1 + (let x = 1 in x)", "[1 + ([let x = 1 in x])]")
        self.reads("(if a then b else c).d", "[([if a then b else c]).d]")
        self.reads("let x = let y = 1 in y in x", "[let x = [let y = 1 in y] in x]")
        self.reads("if if a then b else c then d else e", "[if [if a then b else c] then d else e]")
        self.reads("if a then if b then c else d else e", "[if a then [if b then c else d] else e]")
        self.reads("let x = 1 in x + 2 * x", "[let x = 1 in [x + [2 * x]]]")
        self.reads("loop x = loop y = 1 times 2 do y times if a then 1 else 2 do let z = 3 in z",
                   "[loop x = [loop y = 1 times 2 do y] times [if a then 1 else 2] do [let z = 3 in z]]")

    def test_let_if_and_loop_where_they_cannot_stand(self):
        for word, rest in (("let", " x = 1 in x"), ("if", " a then b else c"), ("loop", " x = 1 times 2 do x")):
            for sign in ("or", "and", "==", "<", "+", "-", "*", "/"):
                self.value_fails("1 " + sign + " " + word + rest, word)
            self.value_fails("- " + word + rest, word)
            self.value_fails("not " + word + rest, word)
            self.value_fails("a." + word + rest, word)

    def test_words_are_no_values(self):
        for word in ("import data trait with impl for def in then else times do and or = == < . , : [ ] )".split()
                     + ["!", "_", '"', "&"]):
            self.value_fails(word, word)
            self.value_fails("a + " + word, word)
            self.value_fails("f(" + word + ", a)" if word != ")" else "(" + word, word)

    def test_left_over_tokens(self):
        self.value_fails("a b", "b")
        self.value_fails("a)", ")")
        self.value_fails("let x = 1 in x in x", "in", 14)
        self.value_fails("if a then b else c else d", "else", 18)
        self.value_fails("a = b", "=")
        self.value_fails("a !", "!")

    def test_the_empty_value(self):
        for text in ("", "  ", "\n", "# note"):
            self.fails(read_value, text, 0, 0)

    def test_numbers(self):
        for digits in ("0", "7", "12", "4294967295", "4294967296", "4294967297", "00012", "9" * 10, "12345678901",
                       "9" * 20, "18446744073709551617", "1" + "0" * 40, "7" * 300):
            self.assertEqual(read_value(digits), ("number", 0, len(digits), int(digits) % 4294967296))
        for many in range(1, 25):
            digits = "987654321098765432109876"[:many]
            self.assertEqual(read_value("(" + digits + ")")[3][3], int(digits) % 4294967296)


class LimitsTest(ReadingTest):
    def test_three_hundred_tokens(self):
        text = "def f() = " + "1 + " * 146 + "((a)"
        self.assertEqual(len(tokens(text)), 301)
        self.item_fails(text, ")", 20)
        text = "def f() = " + "1 + " * 146 + "(a)"
        self.assertEqual(len(tokens(text)), 300)
        self.assertEqual(read_item(text)[0], "def")
        text = "import m: " + ", ".join(["a"] * 149)
        self.assertEqual(len(tokens(text)), 300)
        self.assertEqual(len(read_item(text)[2]), 149)
        self.fails(read_item, text + ",", len(text), len(text) + 1)

    def test_the_token_number_300_comes_before_everything_else(self):
        for first in ("def f() =", "import ", "!", "x y z", "def def", "data D("):
            many = len(tokens(first))
            text = first + " +" * (300 - many)
            self.assertEqual(len(tokens(text)), 300)
            with self.assertRaises(SyntaxProblem) as caught:
                read_item(text)
            self.assertLess(caught.exception.start, len(text) - 10)
            for more in (" a", " !", " a b !"):
                self.fails(read_item, text + more, len(text) + 1, len(text) + 2)

    def test_values_have_the_same_limit(self):
        text = "1" + " + 1" * 149
        self.assertEqual(len(tokens(text)), 299)
        self.assertEqual(read_value(text)[0], "binary")
        self.fails(read_value, text + " + 1", len(text) + 3, len(text) + 4)
        self.assertEqual(read_value("-" + text)[0], "binary")
        self.fails(read_value, "! " + text + " +", len(text) + 3, len(text) + 4)

    def nested(self, opening, closing, many, inner="1"):
        return opening * many + inner + closing * many

    def test_thirty_others(self):
        """A value, "-" or "not" inside of 29 others may stand, inside of 30 not."""
        # Each opening puts one value, or one "-" or "not", around what follows.
        for opening, closing in (("(", ")"), ("f(", ")"), ("g(a, ", ")"), ("- ", ""), ("let x = 1 in ", ""),
                                 ("let x = ", " in x"), ("if a then b else ", ""), ("if ", " then b else c"),
                                 ("if a then ", " else c"), ("loop x = ", " times 1 do x"),
                                 ("loop x = 1 times ", " do x"), ("loop x = 1 times 2 do ", "")):
            # The outermost value is inside of none; a "-" and the value around it are two.
            deepest = 29
            text = self.nested(opening, closing, deepest)
            self.assertLessEqual(len(tokens(text)), 300)
            read_value(text)
            text = self.nested(opening, closing, deepest + 1)
            if opening == "- ":
                self.fails(read_value, text, len(opening) * deepest, len(opening) * deepest + 1)
            else:
                at = len(opening) * (deepest + 1)
                if opening == "let x = 1 in ":
                    at = len(opening) * deepest + len("let x = ")
                elif opening == "if a then b else ":
                    at = len(opening) * deepest + len("if ")
                elif opening == "if a then ":
                    at = len(opening) * deepest + len("if ")
                elif opening == "g(a, ":
                    at = len(opening) * deepest + len("g(")
                elif opening.startswith("loop x = 1"):
                    at = len(opening) * deepest + len("loop x = ")
                self.fails(read_value, text, at, at + 1)

    def test_not(self):
        read_value("not " * 29 + "a")
        self.fails(read_value, "not " * 30 + "a", 4 * 29, 4 * 29 + 3)
        self.fails(read_value, "not " * 31 + "a", 4 * 29, 4 * 29 + 3)

    def test_what_does_not_begin_a_value_is_not_inside(self):
        # No value begins between these brackets.
        self.assertEqual(read_value("(" * 29 + "f()" + ")" * 29)[0], "group")
        # At the depth of 30 the first token of the value fails, whatever it is.
        self.fails(read_value, "(" * 30, 30, 30)
        self.fails(read_value, "(" * 30 + ")", 30, 31)
        self.fails(read_value, "(" * 30 + "let x = 1 in x", 30, 33)
        self.fails(read_value, "(" * 29 + "f(a", 31, 32)
        self.fails(read_value, "(" * 29 + "- a", 29, 30)
        self.fails(read_value, "(" * 29 + "not a", 29, 32)
        self.assertEqual(read_value("(" * 28 + "- a" + ")" * 28)[0], "group")

    def test_mixed_nestings(self):
        openings = [("(", ")", 1), ("f(", ")", 1), ("- (", ")", 2), ("not (", ")", 2), ("let x = (", ") in 1", 2),
                    ("if (", ") then 1 else 2", 2), ("1 + (", ")", 1), ("loop x = (", ") times 1 do 1", 2)]
        chance = random.Random(5)
        for _ in range(200):
            left, right, around = "", "", 1
            while True:
                opening, closing, many = chance.choice(openings)
                if around + many > 30:
                    break
                left, right, around = left + opening, closing + right, around + many
            if len(tokens(left + "a" + right)) > 290:
                continue
            # The value inside of the brackets is the last one that may begin: it is inside of around - 1 others.
            read_value(left + "a" + right)
            self.fails(read_value, left + "-" * (30 - around) + "- a" + right, len(left) + 30 - around,
                       len(left) + 30 - around + 1)

    def test_chains_are_no_nesting(self):
        for sign in ("or", "and", "+", "-", "*", "/"):
            read_value((" " + sign + " ").join(["a"] * 140))
        read_value("a" + ".b" * 140)
        read_value("f(" + ", ".join(["-a"] * 90) + ")")
        read_value(" and ".join(["not a == -b"] * 40))
        self.assertEqual(read_value("(" * 29 + " + ".join(["a"] * 100) + ")" * 29)[0], "group")

    def test_values_of_items(self):
        for start in ("def f() = ", "impl T for D = ", "def f(a: Int): K = "):
            read_item(start + "(" * 29 + "a" + ")" * 29)
            self.fails(read_item, start + "(" * 30 + "a" + ")" * 30, len(start) + 30, len(start) + 31)


if __name__ == "__main__":
    unittest.main()

"""Points 61 to 63: items and values as text."""

import random
import unittest

from samenames.chunks import chunks
from samenames.errors import SyntaxProblem
from samenames.parser import read_item, read_value
from samenames.printer import print_item, print_value, tidied
from samenames.tokens import tokens
from samenames.trees import children
from tests.programs import random_program, spoiled, wild_program

SIGNS = ["or", "and", "==", "<", "+", "-", "*", "/"]


def bare(tree):
    """What a tree tells without places and groups."""
    if tree[0] == "group":
        return bare(tree[3])
    told = {"number": (3,), "truth": (3,), "name": (3,), "call": (3,), "field": (4,), "binary": (3,), "let": (3,),
            "loop": (3,)}.get(tree[0], ())
    return (tree[0],) + tuple(tree[place] for place in told) + tuple(bare(part) for part in children(tree))


def bare_item(item):
    """What an item tells without places and groups."""
    def names(part):
        if isinstance(part, tuple) and len(part) == 2 and isinstance(part[0], str) and isinstance(part[1], int):
            return part[0]
        return tuple(names(inner) for inner in part) if isinstance(part, tuple) else part
    if item[0] in ("impl", "def"):
        return names(item[:-1]) + (bare(item[-1]),)
    return names(item)


class TreeMaker:
    """Random trees of all forms, with groups anywhere or nowhere; the places are made up."""

    def __init__(self, chance, groups):
        self.chance, self.groups = chance, groups

    def name(self):
        return self.chance.choice(["a", "b2", "x_y", "Long", "lets", "ifs"])

    def tree(self, depth):
        if self.chance.random() < self.groups:
            return ("group", 0, 0, self.tree(depth))
        form = self.chance.randrange(12 if depth else 4)
        part = lambda: self.tree(depth - 1)
        if form == 0:
            return ("number", 0, 0, self.chance.choice([0, 7, 12, 4294967295]))
        if form == 1:
            return ("truth", 0, 0, self.chance.random() < 0.5)
        if form < 4:
            return ("name", 0, 0, self.name())
        if form == 4:
            return ("call", 0, 0, self.name(), tuple(part() for _ in range(self.chance.randrange(4))))
        if form == 5:
            return ("field", 0, 0, part(), self.name())
        if form == 6:
            return ("not", 0, 0, part())
        if form == 7:
            return ("minus", 0, 0, part())
        if form == 8:
            return ("if", 0, 0, part(), part(), part())
        if form == 9:
            return ("let", 0, 0, self.name(), 0, part(), part())
        if form == 10:
            return ("loop", 0, 0, self.name(), 0, part(), part(), part())
        return ("binary", 0, 0, self.chance.choice(SIGNS), part(), part())


def brackets(text):
    """The places of the pairs of brackets that are groups: those that do not follow a name."""
    found, waiting, before = [], [], ""
    for sort, start, end in tokens(text):
        if text[start] == "(":
            waiting.append((start, before == "name"))
        elif text[start] == ")":
            first, is_call = waiting.pop()
            if not is_call:
                found.append((first, start))
        before = sort
    return found


class ValuesTest(unittest.TestCase):
    def check(self, text, expected):
        self.assertEqual(print_value(read_value(text)), expected)

    def test_forms(self):
        self.check("007", "7")
        self.check("4294967297", "1")
        self.check("True", "True")
        self.check(" False", "False")
        self.check("a_1", "a_1")
        self.check("f( )", "f()")
        self.check("f(a,b , 3)", "f(a, b, 3)")
        self.check("a . b.c", "a.b.c")
        self.check("f(1).x", "f(1).x")
        self.check("- 1", "-1")
        self.check("not  a", "not a")
        self.check("if a then b else c", "if a then b else c")
        self.check("let x=1 in x", "let x = 1 in x")
        self.check("loop x=1 times 2 do x", "loop x = 1 times 2 do x")
        for sign in SIGNS:
            self.check("a  %s  b" % sign, "a %s b" % sign)
        self.check("a\n  +b # note\n", "a + b")

    def test_groups_are_printed_as_what_is_inside(self):
        self.check("(((a)))", "a")
        self.check("((a+(b*c)))-(d-007).x", "a + b * c - (d - 7).x")
        self.check("f((a), (b + c))", "f(a, b + c)")
        self.check("((a)).x", "a.x")
        self.check("(f(a)).x", "f(a).x")
        self.check("(7).x", "7.x")

    def test_chains_lean_to_the_left(self):
        for sign in ("or", "and", "+", "-", "*", "/"):
            self.check("(a %s b) %s c" % (sign, sign), "a %s b %s c" % (sign, sign))
            self.check("a %s (b %s c)" % (sign, sign), "a %s (b %s c)" % (sign, sign))
        for sign in ("==", "<"):
            for other in ("==", "<"):
                self.check("(a %s b) %s c" % (sign, other), "(a %s b) %s c" % (sign, other))
                self.check("a %s (b %s c)" % (sign, other), "a %s (b %s c)" % (sign, other))
        self.check("(a + b) - c", "a + b - c")
        self.check("a + (b - c)", "a + (b - c)")
        self.check("(a * b) / c", "a * b / c")
        self.check("a * (b / c)", "a * (b / c)")

    def test_ranks_of_signs(self):
        ranks = {"or": 1, "and": 2, "==": 4, "<": 4, "+": 5, "-": 5, "*": 6, "/": 6}
        for outer in SIGNS:
            for inner in SIGNS:
                if ranks[outer] == ranks[inner]:
                    continue
                left, right = "(a %s b) %s c" % (inner, outer), "c %s (a %s b)" % (outer, inner)
                if ranks[inner] > ranks[outer]:
                    left, right = left.replace("(", "").replace(")", ""), right.replace("(", "").replace(")", "")
                self.check("(a %s b) %s c" % (inner, outer), left)
                self.check("c %s (a %s b)" % (outer, inner), right)

    def test_not_and_minus(self):
        self.check("not (a or b)", "not (a or b)")
        self.check("not (a and b)", "not (a and b)")
        self.check("not (a == b)", "not a == b")
        self.check("not (a + b)", "not a + b")
        self.check("not (not a)", "not not a")
        self.check("(not a) == b", "(not a) == b")
        self.check("b < (not a)", "b < (not a)")
        self.check("(not a) and (not b)", "not a and not b")
        self.check("(not a) or (not b)", "not a or not b")
        self.check("-(a + b)", "-(a + b)")
        self.check("-(a * b)", "-(a * b)")
        self.check("(-a) * (-b)", "-a * -b")
        self.check("a - (-b)", "a - -b")
        self.check("-(-a)", "--a")
        self.check("-(a.x)", "-a.x")
        self.check("(-a).x", "(-a).x")
        self.check("-(not a)", "-(not a)")
        self.check("not (-a)", "not -a")
        self.check("(not a).x", "(not a).x")
        self.check("-f(a)", "-f(a)")

    def test_let_if_and_loop(self):
        for text in ("let x = 1 in x", "if a then b else c", "loop x = 1 times 2 do x"):
            self.check("(%s)" % text, text)
            self.check("f((%s))" % text, "f(%s)" % text)
            self.check("1 + (%s)" % text, "1 + (%s)" % text)
            self.check("(%s) or 1" % text, "(%s) or 1" % text)
            self.check("1 or (%s)" % text, "1 or (%s)" % text)
            self.check("not (%s)" % text, "not (%s)" % text)
            self.check("-(%s)" % text, "-(%s)" % text)
            self.check("(%s).x" % text, "(%s).x" % text)
            self.check("let y = (%s) in (%s)" % (text, text), "let y = %s in %s" % (text, text))
            self.check("if (%s) then (%s) else (%s)" % (text, text, text), "if %s then %s else %s" % (text, text, text))
            self.check("loop y = (%s) times (%s) do (%s)" % (text, text, text),
                       "loop y = %s times %s do %s" % (text, text, text))

    def test_each_pair_of_forms(self):
        """Reading gives back what was printed, and no brackets are there that are not needed."""
        forms = ["1", "True", "a", "f(a, b)", "a.x", "not a", "-a", "if a then b else c", "let x = a in b",
                 "loop x = a times b do c"] + ["a %s b" % sign for sign in SIGNS]
        places = ["%s", "f(%s)", "f(1, %s)", "(%s).x", "not (%s)", "-(%s)", "if (%s) then a else b", "if a then (%s) else b",
                  "if a then b else (%s)", "let x = (%s) in a", "let x = a in (%s)", "loop x = (%s) times a do b",
                  "loop x = a times (%s) do b", "loop x = a times b do (%s)"]
        places += ["(%%s) %s a" % sign for sign in SIGNS] + ["a %s (%%s)" % sign for sign in SIGNS]
        for outer in places:
            for inner in places:
                for form in forms:
                    self.check_text(outer % (inner % form))

    def check_text(self, text):
        tree = read_value(text)
        found = print_value(tree)
        self.assertEqual(bare(read_value(found)), bare(tree), text)
        self.assertEqual(print_value(read_value(found)), found)
        self.needed(found)

    def needed(self, text, read=read_value, look=bare):
        """Without any one pair of brackets something else is read, or nothing."""
        for start, end in brackets(text):
            less = text[:start] + " " + text[start + 1:end] + " " + text[end + 1:]
            try:
                self.assertNotEqual(look(read(less)), look(read(text)), text)
            except SyntaxProblem:
                pass

    def test_random_trees(self):
        chance = random.Random(51)
        read = 0
        for number in range(1500):
            tree = TreeMaker(chance, (0, 0.2, 0.5)[number % 3]).tree(chance.randrange(6))
            text = print_value(tree)
            try:
                found = read_value(text)
            except SyntaxProblem:
                # Only because there are too many tokens.
                self.assertGreater(len(tokens(text)), 300)
                continue
            self.assertEqual(bare(found), bare(tree), text)
            self.assertEqual(print_value(found), text)
            self.needed(text)
            read += 1
        self.assertGreater(read, 1200)

    def test_groups_around_everything(self):
        chance = random.Random(52)
        for _ in range(300):
            maker = TreeMaker(chance, 0)
            tree = maker.tree(3)

            def grouped(part):
                inner = tuple(grouped(row) if isinstance(row, tuple) and row and isinstance(row[0], str) else
                              tuple(grouped(each) for each in row) if isinstance(row, tuple) else row for row in part)
                return ("group", 0, 0, ("group", 0, 0, inner))
            self.assertEqual(print_value(grouped(tree)), print_value(tree))

    def test_deep_trees(self):
        for text in (" + ".join(["a"] * 150), "a" + ".b" * 149, "(" * 29 + "a" + ")" * 29, "- " * 29 + "a", "not " * 29 + "a",
                     "f(" * 29 + "a" + ")" * 29, " and ".join(["a"] * 150)):
            found = print_value(read_value(text))
            self.assertEqual(bare(read_value(found)), bare(read_value(text)))
        self.assertEqual(print_value(read_value("(" * 29 + "a" + ")" * 29)), "a")
        # Deeper than what can be read.
        tree = ("name", 0, 0, "a")
        for _ in range(1000):
            tree = ("minus", 0, 0, ("group", 0, 0, tree))
        self.assertEqual(print_value(tree), "-" * 1000 + "a")


class ItemsTest(unittest.TestCase):
    def check(self, text, expected):
        self.assertEqual(print_item(read_item(text)), expected)

    def test_forms(self):
        self.check("import M :a,\n  b\n", "import M: a, b")
        self.check("import M:a", "import M: a")
        self.check("data D( x:Int,y :Bool )\n", "data D(x: Int, y: Bool)")
        self.check("data D ()", "data D()")
        self.check("trait T with m( self,by:Int ):Int", "trait T with m(self, by: Int): Int")
        self.check("trait T with m(self):Bool", "trait T with m(self): Bool")
        self.check("impl T for D=(self.x)", "impl T for D = self.x")
        self.check("def f[T:R,U](a:Int,b:T):Int=(1+2)*3", "def f[T: R, U](a: Int, b: T): Int = (1 + 2) * 3")
        self.check("def f[U ]( )=1", "def f[U]() = 1")
        self.check("def f(a:Int)=a", "def f(a: Int) = a")
        self.check("def f():Bool=\n  let x=1 in\n  x<2\n\n", "def f(): Bool = let x = 1 in x < 2")

    def test_a_printed_item_is_read_as_it_was(self):
        chance = random.Random(53)
        forms = {}
        for number in range(150):
            program = wild_program(chance) if number % 2 else spoiled(chance, random_program(chance), 2)
            for text in program.values():
                for start, end in chunks(text):
                    try:
                        item = read_item(text[start:end])
                    except SyntaxProblem:
                        continue
                    if item[0] == "blank":
                        continue
                    found = print_item(item)
                    self.assertNotIn("\n", found)
                    self.assertEqual(bare_item(read_item(found)), bare_item(item), text[start:end])
                    self.assertEqual(print_item(read_item(found)), found)
                    if item[0] in ("impl", "def"):
                        self.assertTrue(found.endswith(" = " + print_value(item[-1])))
                        self.needed_in(found)
                    forms[item[0]] = forms.get(item[0], 0) + 1
        self.assertEqual(len(forms), 5)
        self.assertGreater(min(forms.values()), 30)

    def needed_in(self, text):
        value = text[text.index(" = ") + 3:]
        ValuesTest.needed(self, value)


class TidiedTest(unittest.TestCase):
    def check(self, text, expected):
        self.assertEqual(tidied(text), expected)
        self.assertEqual(tidied(expected), expected)

    def test_chunks_are_printed(self):
        self.check("def f( )=1", "def f() = 1\n")
        self.check("def f( )=1\n\n\ndata  D()\n  \n", "def f() = 1\ndata D()\n")
        self.check("def f()=\n  1\n   +2\nimport  m:x", "def f() = 1 + 2\nimport m: x\n")

    def test_chunks_that_stay(self):
        # Comments, wherever they stand, broken items, and blank ones.
        self.check("def f( )=1 # a", "def f( )=1 # a")
        self.check("def f( )=1\n\n # a\ndef g( )=2", "def f( )=1\n\n # a\ndef g() = 2\n")
        self.check("# note\n\n\ndef g( )=2\n\n", "# note\n\n\ndef g() = 2\n")
        self.check("def f( )=\n\n\ndef g( )=2", "def f( )=\n\n\ndef g() = 2\n")
        self.check("def f( )=1 1", "def f( )=1 1")
        self.check("def f( )=$\n", "def f( )=$\n")
        self.check("def g( )=2\n# last", "def g() = 2\n# last")

    def test_what_stands_before_the_first_chunk_stays(self):
        self.check("", "")
        self.check("\n\n  x ( \n", "\n\n  x ( \n")
        self.check("\n  # a\ndef f( )=1", "\n  # a\ndef f() = 1\n")

    def test_what_means_nothing_is_printed_as_well(self):
        self.check("def f( )=zz+True\ndef f(a:X,a:X)=1.x", "def f() = zz + True\ndef f(a: X, a: X) = 1.x\n")

    def test_texts_that_get_too_long(self):
        text = "def f()=1" + "+1" * 100 + "\n"
        text *= 4000 // len(text)
        self.assertGreater(len(tidied(text)), 4000)

    def test_random_texts(self):
        chance = random.Random(54)
        changed = 0
        for number in range(200):
            program = wild_program(chance) if number % 2 else spoiled(chance, random_program(chance), number % 4)
            for text in program.values():
                text = chance.choice(["", "\n", "  x\n"]) + text.replace(" + ", chance.choice(["+", " +  "]))
                found = tidied(text)
                changed += found != text
                self.assertEqual(tidied(found), found)
                self.same_items(text, found)
        self.assertGreater(changed, 150)

    def same_items(self, text, found):
        old, new = [text[start:end] for start, end in chunks(text)], [found[start:end] for start, end in chunks(found)]
        self.assertEqual(len(old), len(new))
        for one, other in zip(old, new):
            try:
                item = read_item(one)
            except SyntaxProblem:
                self.assertEqual(other, one)
                continue
            if "#" in one:
                self.assertEqual(other, one)
            else:
                self.assertEqual(other, print_item(item) + "\n")
                self.assertEqual(bare_item(read_item(other)), bare_item(item))


if __name__ == "__main__":
    unittest.main()

"""Point 12, and what the interface lists for trees."""

import unittest

from samenames.parser import read_value
from samenames.trees import children, nodes, same_shape, tree_at


def texts(text, trees):
    return [text[tree[1]:tree[2]] for tree in trees]


class ChildrenTest(unittest.TestCase):
    def check(self, text, *inside):
        tree = read_value(text)
        found = children(tree)
        self.assertIsInstance(found, list)
        self.assertEqual(texts(text, found), list(inside))
        self.assertEqual(found, sorted(found, key=lambda row: row[1]))

    def test_each_form(self):
        self.check("12")
        self.check("True")
        self.check("a")
        self.check("f()")
        self.check("f(a)", "a")
        self.check("f(a, b + 1, g(c))", "a", "b + 1", "g(c)")
        self.check("a.b", "a")
        self.check("a.b.c", "a.b")
        self.check("(a + b)", "a + b")
        self.check("a + b * c", "a", "b * c")
        self.check("a or b", "a", "b")
        self.check("not a == b", "a == b")
        self.check("- a", "a")
        self.check("if a then b else c", "a", "b", "c")
        self.check("let x = a in b", "a", "b")
        self.check("loop x = a times b do c", "a", "b", "c")

    def test_the_lists_are_new(self):
        tree = read_value("f(a, b)")
        children(tree).clear()
        nodes(tree).clear()
        self.assertEqual(len(children(tree)), 2)
        self.assertEqual(len(nodes(tree)), 3)


class NodesTest(unittest.TestCase):
    def check(self, text, *found):
        self.assertEqual(texts(text, nodes(read_value(text))), list(found))

    def test_order(self):
        self.check("1", "1")
        self.check("a.b", "a.b", "a")
        self.check("a + b * c", "a + b * c", "a", "b * c", "b", "c")
        self.check("a - b - c", "a - b - c", "a - b", "a", "b", "c")
        self.check("f(g(1), (2))", "f(g(1), (2))", "g(1)", "1", "(2)", "2")
        self.check("if not a then - b else c.d", "if not a then - b else c.d", "not a", "a", "- b", "b", "c.d", "c")
        self.check("let x = 1 in x", "let x = 1 in x", "1", "x")
        self.check("loop x = 1 times 2 do x + 3", "loop x = 1 times 2 do x + 3", "1", "2", "x + 3", "x", "3")

    def test_deep_trees(self):
        self.assertEqual(len(nodes(read_value(" + ".join(["a"] * 150)))), 299)
        self.assertEqual(len(nodes(read_value("a" + ".b" * 149))), 150)


class TreeAtTest(unittest.TestCase):
    def test_each_tree_is_found_at_its_place(self):
        tree = read_value("let x = (1 + a.b) in if not x then f(- 2, True) else loop y = x times 3 do y * x")
        for node in nodes(tree):
            self.assertEqual(tree_at(tree, node[1], node[2]), node)

    def test_places_of_no_tree(self):
        tree = read_value("a + (b) * c")
        for place in ((0, 0), (0, 2), (1, 1), (2, 3), (4, 6), (4, 8), (0, 12), (5, 11), (11, 11)):
            self.assertIsNone(tree_at(tree, *place), place)
        self.assertEqual(tree_at(tree, 4, 7)[0], "group")
        self.assertEqual(tree_at(tree, 5, 6)[0], "name")

    def test_the_last_of_several(self):
        inner = ("name", 0, 3, "abc")
        other = ("name", 0, 3, "def")
        tree = ("binary", 0, 3, "+", ("group", 0, 3, inner), ("minus", 0, 3, other))
        self.assertEqual(tree_at(tree, 0, 3), other)
        self.assertEqual(tree_at(tree[4], 0, 3), inner)
        self.assertEqual(tree_at(("group", 0, 3, ("minus", 1, 3, inner)), 0, 3), inner)


class SameShapeTest(unittest.TestCase):
    def same(self, first, second):
        for one, other in ((first, second), (second, first)):
            self.assertIs(same_shape(read_value(one), read_value(other)), True, (one, other))

    def differ(self, first, second):
        for one, other in ((first, second), (second, first)):
            self.assertIs(same_shape(read_value(one), read_value(other)), False, (one, other))

    def test_places_and_names(self):
        self.same("a", "  bcd")
        self.same("f(a).b + 1", "\n foo( bar ) . baz+1")
        self.same("let x = 1 in x", "let yy  = 1 in z")
        self.same("loop x = 1 times 2 do x", "loop y=1 times 2 do  zz")
        self.same("if a then b else c", "if d then d else d")
        self.same("not a == - b", "not b==-c")

    def test_numbers_and_truths(self):
        self.same("7", "007")
        self.same("1", "4294967297")
        self.differ("7", "8")
        self.differ("True", "False")
        self.differ("True", "1")
        self.differ("0", "False")
        self.differ("f(a, 1)", "f(a, 2)")

    def test_signs(self):
        signs = ["or", "and", "==", "<", "+", "-", "*", "/"]
        for one in signs:
            for other in signs:
                check = self.same if one == other else self.differ
                check("a " + one + " b", "c " + other + " d")
        self.differ("a - b - c", "a - (b - c)")
        self.differ("a + b * c", "a * b + c")

    def test_forms(self):
        forms = ["1", "True", "a", "f()", "f(a)", "f(a, a)", "a.b", "(a)", "a + a", "not a", "- a",
                 "if a then a else a", "let x = a in a", "loop x = a times a do a"]
        for one in forms:
            for other in forms:
                check = self.same if one == other else self.differ
                check(one, other)

    def test_arguments_and_groups(self):
        self.differ("f(a)", "f(a, b)")
        self.differ("f(g(a), b)", "f(g(a, b))")
        self.differ("f(g(), a)", "f(a, g())")
        self.differ("a + b", "(a + b)")
        self.differ("(a) + b", "a + (b)")
        self.differ("(a)", "((a))")
        self.differ("a.b", "(a).b")


if __name__ == "__main__":
    unittest.main()

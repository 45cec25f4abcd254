"""Items and values as text, with no more brackets and blanks than they should have."""

from samenames.chunks import chunks
from samenames.errors import SyntaxProblem
from samenames.parser import RANKS, read_item

# The ranks of the forms of trees that are no binary; all others have the highest one.
FORM_RANKS = {"let": 0, "if": 0, "loop": 0, "not": 3, "minus": 7}
HIGHEST = 8
# The least ranks of the left and the right part of a binary, and those behind "not" and "-".
SIDES = {"or": (1, 2), "and": (2, 3), "==": (5, 5), "<": (5, 5), "+": (5, 6), "-": (5, 6), "*": (6, 7), "/": (6, 7)}
BEHIND_NOT = 3
BEHIND_MINUS = 7


def bare(tree):
    """Return a tree without the brackets around it."""
    while tree[0] == "group":
        tree = tree[3]
    return tree


def rank(tree):
    """Return the rank of a tree that is no group."""
    if tree[0] == "binary":
        return RANKS[tree[3]]
    return FORM_RANKS.get(tree[0], HIGHEST)


def call_pieces(tree):
    """Return the pieces of a call."""
    found = [tree[3] + "("]
    for number, part in enumerate(tree[4]):
        if number > 0:
            found.append(", ")
        found.append((part, 0))
    return found + [")"]


def pieces(tree):
    """Return what a tree that is no group consists of: texts, and pairs of a tree and the least rank of its place."""
    match tree[0]:
        case "number" | "truth":
            return [str(tree[3])]
        case "name":
            return [tree[3]]
        case "call":
            return call_pieces(tree)
        case "field":
            return [(tree[3], HIGHEST), "." + tree[4]]
        case "binary":
            left, right = SIDES[tree[3]]
            return [(tree[4], left), " " + tree[3] + " ", (tree[5], right)]
        case "not":
            return ["not ", (tree[3], BEHIND_NOT)]
        case "minus":
            return ["-", (tree[3], BEHIND_MINUS)]
        case "if":
            return ["if ", (tree[3], 0), " then ", (tree[4], 0), " else ", (tree[5], 0)]
        case "let":
            return ["let " + tree[3] + " = ", (tree[5], 0), " in ", (tree[6], 0)]
        case _:
            return ["loop " + tree[3] + " = ", (tree[5], 0), " times ", (tree[6], 0), " do ", (tree[7], 0)]


def print_value(tree):
    """Return the text of a tree of a value in the place of the value of an item."""
    found = []
    # A list of its own instead of calls, since a chain of signs is deeper than calls should be.
    waiting = [(tree, 0)]
    while waiting:
        piece = waiting.pop()
        if isinstance(piece, str):
            found.append(piece)
            continue
        inner = bare(piece[0])
        row = pieces(inner)
        if rank(inner) < piece[1]:
            row = ["("] + row + [")"]
        waiting.extend(row[::-1])
    return "".join(found)


def print_fields(fields):
    """Return the texts of fields."""
    return [name[0] + ": " + kind[0] for name, kind in fields]


def print_bounds(bounds):
    """Return the text of bounds with their brackets, or "" if there are none."""
    parts = [name[0] if trait is None else name[0] + ": " + trait[0] for name, trait in bounds]
    return "[" + ", ".join(parts) + "]" if parts else ""


def print_item(item):
    """Return the text of an item that is neither blank nor broken, without a newline."""
    match item[0]:
        case "import":
            return "import " + item[1][0] + ": " + ", ".join([mark[0] for mark in item[2]])
        case "data":
            return "data " + item[1][0] + "(" + ", ".join(print_fields(item[2])) + ")"
        case "trait":
            parts = [item[3][0]] + print_fields(item[4])
            return "trait " + item[1][0] + " with " + item[2][0] + "(" + ", ".join(parts) + "): " + item[5][0]
        case "impl":
            return "impl " + item[1][0] + " for " + item[2][0] + " = " + print_value(item[3])
        case _:
            head = "def " + item[1][0] + print_bounds(item[2]) + "(" + ", ".join(print_fields(item[3])) + ")"
            told = "" if item[4] is None else ": " + item[4][0]
            return head + told + " = " + print_value(item[5])


def tidied_chunk(text):
    """Return the tidied text of a chunk."""
    # A comment would be lost, so its chunk stays; so does a blank one, which consists of comments.
    if "#" in text:
        return text
    try:
        item = read_item(text)
    except SyntaxProblem:
        return text
    return print_item(item) + "\n"


def tidied(text):
    """Return a text in which each item that can be printed is printed."""
    places = chunks(text)
    if not places:
        return text
    return text[:places[0][0]] + "".join([tidied_chunk(text[start:end]) for start, end in places])

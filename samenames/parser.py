"""Reading items and values from the tokens of a chunk."""

from samenames.errors import SyntaxProblem
from samenames.tokens import number_value, tokens

# How many tokens a chunk may have, and inside of how many others a value, "-" or "not" may not begin.
MOST_TOKENS = 300
DEEPEST = 30
# The ranks of the signs between values; "not" stands between "and" and the comparisons.
RANKS = {"or": 1, "and": 2, "==": 4, "<": 4, "+": 5, "-": 5, "*": 6, "/": 6}
LOWEST = 1
NEGATION = 3
COMPARISON = 4
HIGHEST = 6


class Reader:
    """Reads the tokens of a text from left to right."""

    def __init__(self, source):
        self.source = source
        self.row = tokens(source)
        self.at = 0
        # The number of values, "-" and "not" around the next token.
        self.depth = 0
        if len(self.row) > MOST_TOKENS:
            self.at = MOST_TOKENS
            self.fail()

    def fail(self):
        """Fail at the next token, or behind the last one if there is none."""
        if self.at < len(self.row):
            raise SyntaxProblem(self.row[self.at][1], self.row[self.at][2])
        end = self.row[-1][2] if self.row else 0
        raise SyntaxProblem(end, end)

    def ended(self):
        """Return True if no token is left."""
        return self.at == len(self.row)

    def next_sort(self):
        """Return the sort of the next token, or "" if there is none."""
        return "" if self.ended() else self.row[self.at][0]

    def next_start(self):
        """Return the start of the next token, which is there."""
        return self.row[self.at][1]

    def last_end(self):
        """Return the end of the last token that was taken."""
        return self.row[self.at - 1][2]

    def peek(self):
        """Return the characters of the next token, or "" if there is none."""
        if self.ended():
            return ""
        return self.source[self.row[self.at][1]:self.row[self.at][2]]

    def taken(self, word):
        """Take the next token if it is this word or sign; return True if so."""
        if self.peek() != word:
            return False
        self.at += 1
        return True

    def expect(self, word):
        """Take this word or sign, or fail."""
        if not self.taken(word):
            self.fail()

    def mark(self):
        """Take a name and return its mark, or fail."""
        if self.next_sort() != "name":
            self.fail()
        found = (self.peek(), self.next_start())
        self.at += 1
        return found

    def begin(self):
        """Go into a value, "-" or "not" that begins at the next token; return its start."""
        if self.depth == DEEPEST or self.ended():
            self.fail()
        self.depth += 1
        return self.next_start()

    def value(self):
        """Read a value."""
        start = self.begin()
        if self.taken("let"):
            tree = self.let(start)
        elif self.taken("if"):
            tree = self.choice(start)
        elif self.taken("loop"):
            tree = self.loop(start)
        else:
            tree = self.chain(LOWEST)
        self.depth -= 1
        return tree

    def part(self, word):
        """Read the value behind this word."""
        self.expect(word)
        return self.value()

    def let(self, start):
        """Read a let behind its first word."""
        name, at = self.mark()
        value = self.part("=")
        body = self.part("in")
        return ("let", start, body[2], name, at, value, body)

    def choice(self, start):
        """Read an if behind its first word."""
        test = self.value()
        yes = self.part("then")
        no = self.part("else")
        return ("if", start, no[2], test, yes, no)

    def loop(self, start):
        """Read a loop behind its first word."""
        name, at = self.mark()
        first = self.part("=")
        count = self.part("times")
        step = self.part("do")
        return ("loop", start, step[2], name, at, first, count, step)

    def chain(self, least):
        """Read values joined by signs whose rank is at least the one given."""
        most = HIGHEST
        if self.peek() == "not" and least <= NEGATION:
            left = self.negated()
            most = NEGATION
        else:
            left = self.signed()
        while least <= RANKS.get(self.peek(), 0) <= most:
            sign = self.peek()
            self.at += 1
            right = self.chain(RANKS[sign] + 1)
            left = ("binary", left[1], right[2], sign, left, right)
            # What binds closer is on the right now, and a comparison is not compared again.
            most = NEGATION if RANKS[sign] == COMPARISON else RANKS[sign]
        return left

    def negated(self):
        """Read a "not" and what it negates."""
        start = self.begin()
        self.at += 1
        inner = self.chain(NEGATION)
        self.depth -= 1
        return ("not", start, inner[2], inner)

    def signed(self):
        """Read a value between signs, with the "-" before it."""
        if self.peek() != "-":
            return self.reached()
        start = self.begin()
        self.at += 1
        inner = self.signed()
        self.depth -= 1
        return ("minus", start, inner[2], inner)

    def reached(self):
        """Read a simple value and the names of fields behind it."""
        tree = self.simple()
        while self.taken("."):
            name, at = self.mark()
            tree = ("field", tree[1], at + len(name), tree, name)
        return tree

    def simple(self):
        """Read a number, a truth, a name, a call or a value in brackets."""
        sort, word = self.next_sort(), self.peek()
        if sort == "name":
            return self.named()
        if sort != "number" and word not in ("True", "False", "("):
            self.fail()
        start = self.next_start()
        self.at += 1
        if sort == "number":
            return ("number", start, self.last_end(), number_value(word))
        if word != "(":
            return ("truth", start, self.last_end(), word == "True")
        inner = self.value()
        self.expect(")")
        return ("group", start, self.last_end(), inner)

    def named(self):
        """Read a name, or a call if a bracket follows."""
        name, start = self.mark()
        if not self.taken("("):
            return ("name", start, self.last_end(), name)
        found = []
        if self.peek() != ")":
            found.append(self.value())
            while self.taken(","):
                found.append(self.value())
        self.expect(")")
        return ("call", start, self.last_end(), name, tuple(found))

    def field(self):
        """Read a field."""
        name = self.mark()
        self.expect(":")
        return (name, self.mark())

    def fields(self):
        """Read fields in brackets."""
        found = []
        self.expect("(")
        if self.peek() != ")":
            found.append(self.field())
            while self.taken(","):
                found.append(self.field())
        self.expect(")")
        return tuple(found)

    def bound(self):
        """Read a bound."""
        name = self.mark()
        return (name, self.mark() if self.taken(":") else None)

    def bounds(self):
        """Read bounds in brackets, if there are some."""
        found = []
        if self.taken("["):
            found.append(self.bound())
            while self.taken(","):
                found.append(self.bound())
            self.expect("]")
        return tuple(found)

    def imported(self):
        """Read an import behind its first word."""
        module = self.mark()
        self.expect(":")
        found = [self.mark()]
        while self.taken(","):
            found.append(self.mark())
        return ("import", module, tuple(found))

    def trait(self):
        """Read a trait item behind its first word."""
        name = self.mark()
        self.expect("with")
        method = self.mark()
        self.expect("(")
        first = self.mark()
        found = []
        while self.taken(","):
            found.append(self.field())
        self.expect(")")
        self.expect(":")
        return ("trait", name, method, first, tuple(found), self.mark())

    def impl(self):
        """Read an impl item behind its first word."""
        trait = self.mark()
        self.expect("for")
        target = self.mark()
        return ("impl", trait, target, self.part("="))

    def definition(self):
        """Read a def item behind its first word."""
        name = self.mark()
        bounds = self.bounds()
        fields = self.fields()
        result = self.mark() if self.taken(":") else None
        return ("def", name, bounds, fields, result, self.part("="))

    def item(self):
        """Read an item."""
        if self.ended():
            return ("blank",)
        if self.taken("import"):
            return self.imported()
        if self.taken("data"):
            return ("data", self.mark(), self.fields())
        if self.taken("trait"):
            return self.trait()
        if self.taken("impl"):
            return self.impl()
        self.expect("def")
        return self.definition()


def read_item(text):
    """Return the item of the text of a chunk. Raises SyntaxProblem."""
    reader = Reader(text)
    item = reader.item()
    if not reader.ended():
        reader.fail()
    return item


def read_value(text):
    """Return the tree of a text that must be a value. Raises SyntaxProblem."""
    reader = Reader(text)
    tree = reader.value()
    if not reader.ended():
        reader.fail()
    return tree

"""What the def items of a sound program compute."""

from samenames.errors import ServerError
from samenames.facts import keeper_of
from samenames.kinds import meanings
from samenames.tokens import NUMBERS

# Inside of how many others a tree may not begin, and how often a loop takes its step at most.
DEEPEST = 120
MOST_STEPS = 9


class Failed(ServerError):
    """The evaluation fails."""


class Tired(ServerError):
    """The evaluation has no fuel any more, or goes too deep."""


class Frame:
    """One evaluation of a body: what its names mean, and the values of its locals by their symbols."""

    def __init__(self, place, symbols, known):
        self.place = place
        self.symbols = symbols
        self.known = known

    def value_of(self, tree):
        """Return the value of the local that a name means."""
        return self.known[self.symbols[tree[1]]]

    def give(self, tree, value):
        """Give the variable of a let or loop a value."""
        # Each variable has a symbol of its own, so none hides the value of another one.
        self.known[("local",) + self.place + (tree[4],)] = value


class Evaluation:
    """Evaluates trees until the value is there, or it fails or tires."""

    def __init__(self, keeper, fuel):
        self.keeper = keeper
        self.fuel = fuel
        # How many trees are being evaluated.
        self.depth = 0
        self.impls = dict(keeper.ask(("impls",)))
        # What was found out of bodies and data items, so that no call looks for it again.
        self.found_bodies = {}
        self.field_names = {}

    def body(self, module, chunk, given):
        """Return the value of a body for these arguments."""
        place = (module, chunk)
        if place not in self.found_bodies:
            value = self.keeper.ask(("read", module, chunk))[0][-1]
            self.found_bodies[place] = (value, self.parameters_of(module, chunk), meanings(self.keeper, module, chunk))
        value, marks, symbols = self.found_bodies[place]
        return self.value(value, Frame(place, symbols, dict(zip(marks, given))))

    def parameters_of(self, module, chunk):
        """Return the symbols of the parameters of a body, in order."""
        pair = self.keeper.ask(("impl", module, chunk))
        if pair is not None:
            trait = pair[0]
            module, chunk = trait[1], self.keeper.ask(("found", trait[1], trait[2]))[1]
        rows = self.keeper.ask(("signature", module, chunk))[1]
        return [("local", module, chunk, start) for _, start, _ in rows]

    def value(self, tree, frame):
        """Return the value of a tree."""
        if self.fuel == 0 or self.depth == DEEPEST:
            raise Tired("the evaluation is tired")
        self.fuel -= 1
        self.depth += 1
        match tree[0]:
            case "number" | "truth":
                found = tree[3]
            case "name":
                found = frame.value_of(tree)
            case "group":
                found = self.value(tree[3], frame)
            case "not":
                found = not self.value(tree[3], frame)
            case "minus":
                found = (0 - self.value(tree[3], frame)) % NUMBERS
            case "binary":
                found = self.binary(tree, frame)
            case "if":
                found = self.value(tree[4] if self.value(tree[3], frame) else tree[5], frame)
            case "let":
                frame.give(tree, self.value(tree[5], frame))
                found = self.value(tree[6], frame)
            case "loop":
                found = self.loop(tree, frame)
            case "field":
                found = self.field(tree, frame)
            case _:
                found = self.call(tree, frame)
        self.depth -= 1
        return found

    def binary(self, tree, frame):
        """Return the value of a binary."""
        sign = tree[3]
        left = self.value(tree[4], frame)
        if sign in ("and", "or"):
            # The left part decides alone if it is False, for and, or True, for or.
            return self.value(tree[5], frame) if left == (sign == "and") else left
        right = self.value(tree[5], frame)
        match sign:
            case "==":
                return same_data(left, right)
            case "<":
                return left < right
            case "+":
                return (left + right) % NUMBERS
            case "-":
                return (left - right) % NUMBERS
            case "*":
                return (left * right) % NUMBERS
            case _:
                if right == 0:
                    raise Failed("nothing can be divided by 0")
                return left // right

    def loop(self, tree, frame):
        """Return the value of a loop."""
        found = self.value(tree[5], frame)
        count = self.value(tree[6], frame)
        for _ in range(min(count, MOST_STEPS)):
            frame.give(tree, found)
            found = self.value(tree[7], frame)
        return found

    def field(self, tree, frame):
        """Return the value of a field."""
        _, module, name, values = self.value(tree[3], frame)
        if (module, name) not in self.field_names:
            _, chunk, _ = self.keeper.ask(("found", module, name))
            rows = self.keeper.ask(("signature", module, chunk))[1]
            self.field_names[(module, name)] = [row[0] for row in rows]
        return values[self.field_names[(module, name)].index(tree[4])]

    def call(self, tree, frame):
        """Return the value of a call."""
        given = []
        for part in tree[4]:
            given.append(self.value(part, frame))
        symbol = frame.symbols[tree[1]]
        sort, chunk, _ = self.keeper.ask(("found", symbol[1], symbol[2]))
        if sort == "data":
            return ("data", symbol[1], symbol[2], tuple(given))
        if sort == "def":
            return self.body(symbol[1], chunk, given)
        trait = self.keeper.ask(("head", symbol[1], chunk))[1][0][0]
        module, number = self.impls[(("item", symbol[1], trait), target_for(given[0]))]
        return self.body(module, number, given)


def target_for(value):
    """Return the symbol of the data item or built-in kind that data belong to."""
    if value is True or value is False:
        return ("builtin", "Bool")
    if isinstance(value, int):
        return ("builtin", "Int")
    return ("item", value[1], value[2])


def same_data(left, right):
    """Return True if two data are equal; they may be nested deeper than calls should be."""
    waiting = [(left, right)]
    while waiting:
        one, other = waiting.pop()
        # What is passed for two fields of one bound may be of different kinds.
        if isinstance(one, tuple) and isinstance(other, tuple) and one[:3] == other[:3]:
            waiting.extend(list(zip(one[3], other[3])))
        elif one != other:
            return False
    return True


def evaluate(program, module, name, arguments, fuel):
    """Return the outcome of a def item for a list of data: ("value", data), ("failed",) or ("tired",)."""
    keeper = keeper_of(program)
    evaluation = Evaluation(keeper, fuel)
    chunk = keeper.ask(("found", module, name))[1]
    try:
        return ("value", evaluation.body(module, chunk, arguments))
    except Failed:
        return ("failed",)
    except Tired:
        return ("tired",)

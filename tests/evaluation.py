"""The points 46 to 48 for the tests: what the def items of a sound program compute."""

from tests.reference import Reference

NUMBERS = 4294967296


class Failed(Exception):
    pass


class Tired(Exception):
    pass


class Evaluation:
    def __init__(self, program):
        self.reference = Reference(program)
        self.means = {place: self.reference.names(*place)[2] for place in self.reference.items}

    def outcome(self, module, name, arguments, fuel=3000):
        self.fuel, self.depth = fuel, 0
        chunk = self.reference.declared[module][name][1]
        try:
            return ("value", self.body(module, chunk, arguments))
        except Failed:
            return ("failed",)
        except Tired:
            return ("tired",)

    def body(self, module, chunk, arguments):
        item = self.reference.items[module, chunk]
        if item[0] == "def":
            marks = [("local", module, chunk, field[0][1]) for field in item[3]]
        else:
            trait = self.means[module, chunk][item[1][1]]
            number = self.reference.declared[trait[1]][trait[2]][1]
            other = self.reference.items[trait[1], number]
            marks = [("local", trait[1], number, mark[1]) for mark in [other[3]] + [field[0] for field in other[4]]]
        return self.value(item[-1], dict(zip(marks, arguments)), (module, chunk))

    def value(self, tree, around, place):
        if self.fuel == 0 or self.depth == 120:
            raise Tired()
        self.fuel -= 1
        self.depth += 1
        found = self.inner(tree, around, place)
        self.depth -= 1
        return found

    def inner(self, tree, around, place):
        word = tree[0]
        value = lambda part: self.value(part, around, place)
        if word in ("number", "truth"):
            return tree[3]
        if word == "name":
            return around[self.means[place][tree[1]]]
        if word == "group":
            return value(tree[3])
        if word == "not":
            return not value(tree[3])
        if word == "minus":
            return -value(tree[3]) % NUMBERS
        if word == "if":
            return value(tree[4]) if value(tree[3]) else value(tree[5])
        if word == "binary":
            return self.binary(tree, value)
        if word == "field":
            _, module, name, values = value(tree[3])
            fields = self.reference.items[module, self.reference.declared[module][name][1]][2]
            return values[[field[0][0] for field in fields].index(tree[4])]
        if word == "let":
            mark = ("local",) + place + (tree[4],)
            return self.value(tree[6], {**around, mark: value(tree[5])}, place)
        if word == "loop":
            mark = ("local",) + place + (tree[4],)
            found, count = value(tree[5]), value(tree[6])
            for _ in range(min(count, 9)):
                found = self.value(tree[7], {**around, mark: found}, place)
            return found
        return self.call(self.means[place][tree[1]], [value(part) for part in tree[4]])

    def binary(self, tree, value):
        left = value(tree[4])
        if tree[3] in ("and", "or"):
            return value(tree[5]) if left == (tree[3] == "and") else left
        right = value(tree[5])
        if tree[3] == "/":
            if right == 0:
                raise Failed()
            return left // right
        if tree[3] == "==":
            return left == right
        if tree[3] == "<":
            return left < right
        return {"+": left + right, "-": left - right, "*": left * right}[tree[3]] % NUMBERS

    def call(self, symbol, arguments):
        sort, chunk, _ = self.reference.declared[symbol[1]][symbol[2]]
        if sort == "data":
            return ("data", symbol[1], symbol[2], tuple(arguments))
        if sort == "def":
            return self.body(symbol[1], chunk, arguments)
        first = arguments[0]
        target = ("builtin", "Bool" if first is True or first is False else "Int")
        if isinstance(first, tuple):
            target = ("item",) + first[1:3]
        trait = ("item", symbol[1], self.reference.items[symbol[1], chunk][1][0])
        return self.body(*self.reference.impls[trait, target], arguments)


def random_data(chance, reference, kind, depth=3):
    """Some data that fit a kind; for a bound, a pair of its trait is looked up among the impls."""
    if kind == ("Int",):
        return chance.choice([0, 1, 2, 3, 7, 11, 4294967295])
    if kind == ("Bool",):
        return chance.choice([True, False])
    if kind[0] == "bound":
        item = reference.items[kind[1], kind[2]]
        trait = [bound[1] for bound in item[2] if bound[0][1] == kind[3]][0]
        targets = [("builtin", "Int"), ("builtin", "Bool")]
        if trait is not None:
            wanted = reference.names(kind[1], kind[2])[2][trait[1]]
            targets = [target for other, target in reference.impls if other == wanted]
        if not targets:
            return None
        target = chance.choice(targets)
        kind = ("data",) + target[1:] if target[0] == "item" else (target[1],)
        return random_data(chance, reference, kind, depth)
    number = reference.declared[kind[1]][kind[2]][1]
    fields = reference.items[kind[1], number][2]
    inner = [random_data(chance, reference, reference.kind_named(kind[1], number, mark), depth - 1)
             for _, mark in fields] if depth else [None]
    return None if None in inner else ("data", kind[1], kind[2], tuple(inner))


def translated(data, instead):
    """Data in which the symbols of data items are replaced."""
    if not isinstance(data, tuple):
        return data
    if data[0] == "data":
        symbol = instead.get(("item",) + data[1:3], ("item",) + data[1:3])
        return ("data",) + symbol[1:] + (tuple(translated(part, instead) for part in data[3]),)
    return tuple(translated(part, instead) for part in data)

"""Random programs for the tests: sound ones, and ones in which some names or signs are wrong."""

from samenames.parser import read_value
from samenames.tokens import tokens

WORDS = ["a", "b", "c", "x", "y", "n", "self", "val", "Int2"]


class Item:
    """Something that a program declares: its module, name, bounds, fields and result."""

    def __init__(self, sort, module, name, bounds=(), fields=(), result=None):
        self.sort, self.module, self.name = sort, module, name
        self.bounds, self.fields, self.result = bounds, fields, result


class Maker:
    """Makes a sound program. Kinds are "Int", "Bool", data items, and names of bounds."""

    def __init__(self, chance, modules):
        self.chance = chance
        self.modules = modules
        self.number = 0
        self.datas, self.traits, self.impls, self.defs = [], [], [], []
        self.rows = {module: [] for module in modules}
        self.needed = {module: set() for module in modules}

    def fresh(self, first):
        self.number += 1
        return first + str(self.number)

    def name_of(self, kind, module):
        if isinstance(kind, Item):
            self.need(kind, module)
            return kind.name
        return kind

    def need(self, item, module):
        if item.module != module:
            self.needed[module].add((item.module, item.name))

    def some_kind(self):
        return self.chance.choice(["Int", "Int", "Bool"] + self.datas)

    def locals(self, many):
        return self.chance.sample(WORDS, many)

    def make(self):
        for _ in range(self.chance.randrange(3)):
            self.make_data()
        for _ in range(self.chance.randrange(3)):
            self.make_trait()
        for _ in range(self.chance.randrange(1, 6)):
            self.make_def()
        texts = {}
        for module in self.modules:
            head = ""
            for other, name in sorted(self.needed[module]):
                head += "import " + other + ": " + name + "\n"
            self.chance.shuffle(self.rows[module])
            texts[module] = head + "".join(self.rows[module])
        return texts

    def make_data(self):
        module = self.chance.choice(self.modules)
        fields = [(name, self.some_kind()) for name in self.locals(self.chance.randrange(3))]
        item = Item("data", module, self.fresh("D"), (), fields)
        inner = ", ".join(name + ": " + self.name_of(kind, module) for name, kind in fields)
        self.rows[module].append("data " + item.name + "(" + inner + ")\n")
        self.datas.append(item)

    def make_trait(self):
        module = self.chance.choice(self.modules)
        names = self.locals(1 + self.chance.randrange(3))
        fields = [(name, self.some_kind()) for name in names[1:]]
        result = self.some_kind()
        trait = Item("trait", module, self.fresh("T"))
        method = Item("method", module, self.fresh("m"), (trait,), fields, result)
        row = "trait " + trait.name + " with " + method.name + "(" + names[0]
        for name, kind in fields:
            row += ", " + name + ": " + self.name_of(kind, module)
        self.rows[module].append(row + "): " + self.name_of(result, module) + "\n")
        made = []
        for target in self.chance.sample(["Int", "Bool"] + self.datas, 1 + self.chance.randrange(2)):
            home = self.chance.choice(self.modules)
            self.need(trait, home)
            around = dict(fields)
            around.setdefault(names[0], target)
            row = "impl " + trait.name + " for " + self.name_of(target, home) + " = "
            self.rows[home].append(row + self.value(result, around, home, 3) + "\n")
            made.append((method, target))
        # Only now, so that no impl calls the method of its own trait.
        self.traits.append(method)
        self.impls.extend(made)

    def make_def(self):
        module = self.chance.choice(self.modules)
        names = self.locals(self.chance.randrange(4))
        bounds = []
        if self.chance.random() < 0.4 and names:
            trait = self.chance.choice(self.traits + [None])
            bounds = [(self.fresh("B"), trait)]
        choices = [self.some_kind for _ in names]
        fields = [(name, pick()) for name, pick in zip(names, choices)]
        if bounds:
            fields[0] = (names[0], bounds[0][0])
        result = self.chance.choice([self.some_kind(), bounds[0][0] if bounds else "Int"])
        item = Item("def", module, self.fresh("f"), bounds, fields, result)
        row = "def " + item.name
        if bounds:
            trait = bounds[0][1]
            row += "[" + bounds[0][0]
            if trait is not None:
                self.need(trait.bounds[0], module)
                row += ": " + trait.bounds[0].name
            row += "]"
        row += "(" + ", ".join(name + ": " + self.name_of(kind, module) for name, kind in fields) + ")"
        if self.chance.random() < 0.5:
            row += ": " + self.name_of(result, module)
        self.bound_now = bounds
        row += self.chance.choice([" = ", "\n  = "]) + self.value(result, dict(fields), module, 4)
        self.bound_now = []
        self.rows[module].append(row + self.chance.choice(["\n", "\n", " # note\n", "\n\n"]))
        self.defs.append(item)

    bound_now = ()

    def value(self, kind, around, module, depth):
        """The text of a value of a kind, without signs around it that would need brackets."""
        ways = [self.simple] * 2
        if depth > 0:
            ways += [self.let, self.choice, self.loop, self.call, self.call, self.method, self.reach, self.group]
            if kind in ("Int", "Bool"):
                ways += [self.binary] * 3
        for way in self.chance.sample(ways, len(ways)):
            found = way(kind, around, module, depth - 1)
            if found is not None:
                return found
        return self.simple(kind, around, module, depth)

    def simple(self, kind, around, module, depth):
        known = [name for name in around if around[name] == kind]
        if known and (self.chance.random() < 0.7 or kind not in ("Int", "Bool")):
            return self.chance.choice(known)
        if kind == "Int":
            return str(self.chance.choice([0, 1, 2, 7, 12, 4294967295]))
        if kind == "Bool":
            return self.chance.choice(["True", "False"])
        if isinstance(kind, Item):
            self.need(kind, module)
            inner = [self.simple(field, around, module, 0) for _, field in kind.fields]
            return None if None in inner else kind.name + "(" + ", ".join(inner) + ")"
        return None

    def operand(self, kind, around, module, depth):
        text = self.value(kind, around, module, depth)
        if text is None or read_value(text)[0] in ("number", "truth", "name", "call", "field", "group"):
            return text
        return "(" + text + ")"

    def binary(self, kind, around, module, depth):
        sign = self.chance.choice(["+", "-", "*", "/"] if kind == "Int" else ["<", "==", "and", "or", "not"])
        if sign == "not":
            return "not " + self.operand("Bool", around, module, depth)
        part = "Int" if kind == "Int" or sign == "<" else "Bool"
        if sign == "==":
            part = self.some_kind()
        if sign == "-" and self.chance.random() < 0.5:
            return "-" + self.operand("Int", around, module, depth)
        left, right = self.operand(part, around, module, depth), self.operand(part, around, module, depth)
        return left + " " + sign + " " + right

    def let(self, kind, around, module, depth):
        name = self.chance.choice(WORDS)
        other = self.some_kind()
        value = self.value(other, around, module, depth)
        body = self.value(kind, {**around, name: other}, module, depth)
        return None if body is None else "let " + name + " = " + value + " in " + body

    def choice(self, kind, around, module, depth):
        yes, no = self.value(kind, around, module, depth), self.value(kind, around, module, depth)
        if yes is None or no is None:
            return None
        return "if " + self.value("Bool", around, module, depth) + " then " + yes + " else " + no

    def loop(self, kind, around, module, depth):
        name = self.chance.choice(WORDS)
        first = self.value(kind, around, module, depth)
        step = self.value(kind, {**around, name: kind}, module, depth)
        if first is None or step is None:
            return None
        return "loop " + name + " = " + first + " times " + self.value("Int", around, module, depth) + " do " + step

    def group(self, kind, around, module, depth):
        found = self.value(kind, around, module, depth)
        return None if found is None else "(" + found + ")"

    def reach(self, kind, around, module, depth):
        found = [(data, name) for data in self.datas for name, field in data.fields if field == kind]
        if not found:
            return None
        data, name = self.chance.choice(found)
        target = self.value(data, around, module, depth)
        return None if target is None else "(" + target + ")." + name

    def call(self, kind, around, module, depth):
        found = [item for item in self.defs if item.result == kind]
        found += [item for item in self.defs if item.bounds and item.result == item.bounds[0][0]]
        found += [data for data in self.datas if data == kind]
        if not found:
            return None
        item = self.chance.choice(found)
        bound = item.bounds[0][0] if item.bounds else None
        stands = kind if item.result == bound else None
        if bound is not None:
            trait = item.bounds[0][1]
            fitting = [target for method, target in self.impls if trait is None or method == trait]
            fitting += [name for name, other in self.bound_now if trait is None or other == trait]
            stands = stands or (self.chance.choice(fitting) if fitting else None)
            if stands is None or trait is not None and stands not in fitting:
                return None
        self.need(item, module)
        return self.filled(item.name, [stands if field == bound else field for _, field in item.fields],
                           around, module, depth)

    def method(self, kind, around, module, depth):
        found = [(method, target) for method, target in self.impls if method.result == kind]
        found += [(trait, name) for name, trait in self.bound_now if trait is not None and trait.result == kind]
        if not found:
            return None
        method, target = self.chance.choice(found)
        self.need(method, module)
        return self.filled(method.name, [target] + [field for _, field in method.fields], around, module, depth)

    def filled(self, name, kinds, around, module, depth):
        inner = [self.value(kind, around, module, depth) for kind in kinds]
        if None in inner:
            return None
        return name + "(" + ", ".join(inner) + ")"


def random_program(chance, most=900):
    """A sound program of one to three modules, with texts that are not too long."""
    while True:
        modules = chance.sample(["a", "b", "c", "mod"], chance.randrange(1, 4))
        texts = Maker(chance, modules).make()
        if max(len(text) for text in texts.values()) <= most:
            return texts


def spoiled(chance, program, many):
    """The program with some tokens changed, left out or doubled."""
    program = dict(program)
    names = [text[start:end] for text in program.values() for sort, start, end in tokens(text) if sort == "name"]
    for _ in range(many):
        module = chance.choice(sorted(program))
        text = program[module]
        found = tokens(text)
        if not found:
            continue
        sort, start, end = chance.choice(found)
        way = chance.randrange(10)
        if sort == "name" and way < 8:
            new = chance.choice(names + list(program) + ["Int", "Bool", "x", "zz"])
        elif way < 9:
            new = chance.choice(names + ["1", "True", "(", ")", "=", "\n", "+", ".", ", q: Int", ", x"])
        else:
            new = ""
        program[module] = (text[:start] + new + text[end:])[:4000]
    return program


class Wild:
    """Makes programs of items that can be read, with names from a small pool, so that most rules are broken."""

    def __init__(self, chance):
        self.chance = chance
        self.modules = chance.sample(["a", "b", "c"], chance.randrange(1, 4))

    def name(self):
        return self.chance.choice(["a", "b", "D", "E", "T", "f", "g", "m", "x", "y"])

    def kind(self):
        return self.chance.choice(["Int", "Int", "Int", "Bool", "D", "D", "E", "T", "U", self.name()])

    def many(self, part, most):
        return ", ".join(part() for _ in range(self.chance.randrange(most + 1)))

    def field(self):
        return self.chance.choice("xyxyab") + ": " + self.kind()

    def bound(self):
        return self.chance.choice(["U", "U", "T", "V"]) + self.chance.choice(["", ": T", ": " + self.name()])

    def item(self):
        way = self.chance.randrange(12)
        if way == 0:
            module = self.chance.choice(["a", "b", "c"])
            return "import " + module + ": " + self.name() + self.chance.choice(["", ", " + self.name()])
        if way < 3:
            return "data " + self.chance.choice(["D", "D", "E", self.name()]) + "(" + self.many(self.field, 2) + ")"
        if way == 3:
            rest = self.many(self.field, 2)
            return ("trait " + self.chance.choice(["T", "T", self.name()]) + " with "
                    + self.chance.choice(["m", "m", self.name()]) + "(" + self.chance.choice(["x", "y", "a"])
                    + (", " + rest if rest else "") + "): " + self.kind())
        if way < 6:
            return "impl T for " + self.kind() + " = " + self.value(3)
        bounds = self.chance.choice(["", "", "[" + self.bound() + "]", "[" + self.bound() + ", " + self.bound() + "]"])
        told = self.chance.choice(["", "", ": " + self.kind()])
        return ("def " + self.chance.choice(["f", "g", self.name()]) + bounds + "(" + self.many(self.field, 2) + ")"
                + told + " = " + self.value(4))

    def value(self, depth):
        way = self.chance.randrange(16 if depth else 5)
        deeper = depth - 1
        if way == 0:
            return self.chance.choice(["1", "2", "True"])
        if way < 5:
            return self.chance.choice(["x", "y", "x", "y", "a", "v", "w", "1"])
        if way < 9:
            name = self.chance.choice(["f", "g", "m", "D", "E", "m", "f", self.name()])
            return name + "(" + self.many(lambda: self.value(deeper), 2) + ")"
        if way == 9:
            return "let " + self.chance.choice("vwxy") + " = " + self.value(deeper) + " in " + self.value(deeper)
        if way == 10:
            return "if " + self.value(deeper) + " then " + self.value(deeper) + " else " + self.value(deeper)
        if way == 11:
            return ("loop " + self.chance.choice("vwxy") + " = " + self.value(deeper) + " times " + self.value(deeper)
                    + " do " + self.value(deeper))
        if way < 14:
            return "(" + self.value(deeper) + ")." + self.chance.choice("xyab")
        if way == 14:
            return self.chance.choice(["not ", "- "]) + "(" + self.value(deeper) + ")"
        sign = self.chance.choice(["+", "*", "==", "<", "and", "or"])
        return "(" + self.value(deeper) + ") " + sign + " (" + self.value(deeper) + ")"

    def make(self):
        return {module: "".join(self.item() + "\n" for _ in range(self.chance.randrange(1, 8)))
                for module in self.modules}


def wild_program(chance):
    """A program with names from a small pool."""
    return Wild(chance).make()

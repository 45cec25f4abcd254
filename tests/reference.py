"""The points 14 to 32 once more, for the tests: everything is worked out anew at each question, by plain recursion.

Nothing here is kept or shared, and only chunks and items are read by the program itself.
"""

from samenames.chunks import chunks
from samenames.errors import SyntaxProblem
from samenames.parser import read_item

UNKNOWN = ("unknown",)
INT = ("Int",)
BOOL = ("Bool",)


class Open:
    """A kind that is not known yet."""

    def __init__(self):
        self.kind = None


def final(kind):
    while isinstance(kind, Open) and kind.kind is not None:
        kind = kind.kind
    return kind


def read(text):
    try:
        return read_item(text), None
    except SyntaxProblem as problem:
        return ("broken",), (problem.start, problem.end)


class Reference:
    def __init__(self, program):
        self.program = program
        self.items = {}
        self.failures = {}
        self.shift = {}
        for module, text in program.items():
            for number, (start, end) in enumerate(chunks(text)):
                self.items[module, number], self.failures[module, number] = read(text[start:end])
                self.shift[module, number] = start
        self.double = {}
        self.declared = {}
        for module in program:
            self.look_at_marks(module)
        self.results = {}
        self.find_impls()

    def chunks_of(self, module):
        return sorted(chunk for other, chunk in self.items if other == module)

    def look_at_marks(self, module):
        """Which marks are doubled, and what is declared: name to (sort, chunk, start)."""
        taken = set()
        self.double[module] = set()
        self.declared[module] = {}
        for chunk in self.chunks_of(module):
            item = self.items[module, chunk]
            marks = {"import": lambda: item[2], "data": lambda: (item[1],), "def": lambda: (item[1],),
                     "trait": lambda: (item[1], item[2])}.get(item[0], lambda: ())()
            good = True
            for name, start in marks:
                if name in taken:
                    self.double[module].add((chunk, start, name))
                    good = False
                taken.add(name)
            if good and item[0] in ("data", "def"):
                self.declared[module][item[1][0]] = (item[0], chunk, item[1][1])
            if good and item[0] == "trait":
                self.declared[module][item[1][0]] = ("trait", chunk, item[1][1])
                self.declared[module][item[2][0]] = ("method", chunk, item[2][1])

    def void(self, module, chunk):
        item = self.items[module, chunk]
        return item[0] in ("data", "trait", "def") and any(row[0] == chunk for row in self.double[module])

    def scope(self, module):
        found = {name: ("item", module, name) for name in self.declared[module]}
        for chunk in self.chunks_of(module):
            item = self.items[module, chunk]
            if item[0] == "import" and item[1][0] in self.program and item[1][0] != module:
                for name, start in item[2]:
                    if (chunk, start, name) not in self.double[module] and name in self.declared[item[1][0]]:
                        found[name] = ("item", item[1][0], name)
        return found

    def sort(self, symbol):
        if symbol[0] == "item":
            return self.declared[symbol[1]][symbol[2]][0]
        return symbol[0]

    def item_of(self, symbol):
        return self.items[symbol[1], self.declared[symbol[1]][symbol[2]][1]]

    # Names

    def names(self, module, chunk):
        """(occurrences, problems, what each start means) of a chunk."""
        item = self.items[module, chunk]
        occurrences, problems = [], []
        if item[0] == "broken":
            return [], [self.failures[module, chunk] + ("syntax",)], {}
        for number, start, name in self.double[module]:
            if number == chunk:
                problems.append((start, start + len(name), "double"))
        scope = self.scope(module)

        def tell(mark, symbol, declares=False, *fitting):
            place = (mark[1], mark[1] + len(mark[0]))
            if symbol is None:
                problems.append(place + ("unknown",))
                return
            occurrences.append(place + (symbol, declares))
            if fitting and self.sort(symbol) not in fitting:
                problems.append(place + ("sort",))

        def among_themselves(marks, symbol):
            for number, mark in enumerate(marks):
                if mark[0] in [other[0] for other in marks[:number]]:
                    problems.append((mark[1], mark[1] + len(mark[0]), "double"))
                else:
                    tell(mark, symbol(mark), True)

        def local(mark):
            return ("local", module, chunk, mark[1])

        def kind(mark, bounds, *fitting):
            for bound in bounds:
                if bound[0][0] == mark[0]:
                    return tell(mark, local(bound[0]), False, *fitting)
            builtin = ("builtin", mark[0]) if mark[0] in ("Int", "Bool") else None
            return tell(mark, scope.get(mark[0]) or builtin, False, *fitting)

        def value(tree, around):
            word = tree[0]
            if word == "name":
                tell((tree[3], tree[1]), around.get(tree[3]) or scope.get(tree[3]), False, "local")
            elif word == "call":
                tell((tree[3], tree[1]), around.get(tree[3]) or scope.get(tree[3]), False, "def", "data", "method")
                for part in tree[4]:
                    value(part, around)
            elif word == "let":
                tell((tree[3], tree[4]), local((tree[3], tree[4])), True)
                value(tree[5], around)
                value(tree[6], {**around, tree[3]: local((tree[3], tree[4]))})
            elif word == "loop":
                tell((tree[3], tree[4]), local((tree[3], tree[4])), True)
                value(tree[5], around)
                value(tree[6], around)
                value(tree[7], {**around, tree[3]: local((tree[3], tree[4]))})
            else:
                for part in tree[3:]:
                    if isinstance(part, tuple):
                        value(part, around)

        if item[0] == "import":
            other = item[1][0]
            if other in self.program:
                tell(item[1], ("module", other))
            if other not in self.program or other == module:
                problems.append((item[1][1], item[1][1] + len(other), "unknown"))
            else:
                for name, start in item[2]:
                    if (chunk, start, name) not in self.double[module]:
                        tell((name, start), scope.get(name))
        elif self.void(module, chunk):
            pass
        elif item[0] == "data":
            tell(item[1], ("item", module, item[1][0]), True)
            among_themselves([field[0] for field in item[2]], lambda mark: ("field", module, item[1][0], mark[0]))
            for field in item[2]:
                kind(field[1], (), "data", "builtin", "local")
        elif item[0] == "trait":
            tell(item[1], ("item", module, item[1][0]), True)
            tell(item[2], ("item", module, item[2][0]), True)
            among_themselves([item[3]] + [field[0] for field in item[4]], local)
            for mark in [field[1] for field in item[4]] + [item[5]]:
                kind(mark, (), "data", "builtin", "local")
        elif item[0] == "impl":
            tell(item[1], scope.get(item[1][0]), False, "trait")
            kind(item[2], (), "data", "builtin")
            value(item[3], self.parameters(module, chunk))
        elif item[0] == "def":
            tell(item[1], ("item", module, item[1][0]), True)
            among_themselves([bound[0] for bound in item[2]], local)
            for bound in item[2]:
                if bound[1]:
                    tell(bound[1], scope.get(bound[1][0]), False, "trait")
            among_themselves([field[0] for field in item[3]], local)
            for mark in [field[1] for field in item[3]] + ([item[4]] if item[4] else []):
                kind(mark, item[2], "data", "builtin", "local")
            value(item[5], self.parameters(module, chunk))
        wrong = {problem[0] for problem in problems}
        means = {row[0]: row[2] for row in occurrences if row[0] not in wrong}
        return sorted(occurrences, key=lambda row: row[0]), sorted(set(problems)), means

    def parameters(self, module, chunk):
        """The parameters of a body by name, each a symbol."""
        item = self.items[module, chunk]
        if item[0] == "def":
            return {field[0][0]: ("local", module, chunk, field[0][1]) for field in reversed(item[3])}
        trait = self.scope(module).get(item[1][0])
        if trait is None or self.sort(trait) != "trait":
            return {}
        number = self.declared[trait[1]][trait[2]][1]
        other = self.items[trait[1], number]
        marks = [other[3]] + [field[0] for field in other[4]]
        return {name: ("local", trait[1], number, start) for name, start in reversed(marks)}

    # Kinds

    def kind_named(self, module, chunk, mark):
        symbol = self.names(module, chunk)[2].get(mark[1])
        if symbol is None:
            return UNKNOWN
        if symbol[0] == "builtin":
            return (symbol[1],)
        if symbol[0] == "local":
            return ("bound",) + symbol[1:]
        return ("data",) + symbol[1:]

    def find_impls(self):
        self.impls, self.later = {}, set()
        for module in sorted(self.program):
            for chunk in self.chunks_of(module):
                item = self.items[module, chunk]
                if item[0] == "impl":
                    means = self.names(module, chunk)[2]
                    pair = (means.get(item[1][1]), means.get(item[2][1]))
                    if None not in pair:
                        if pair in self.impls:
                            self.later.add((module, chunk))
                        self.impls.setdefault(pair, (module, chunk))

    def has_body(self, module, chunk):
        item = self.items[module, chunk]
        if item[0] == "def":
            return not self.void(module, chunk)
        return (module, chunk) in self.impls.values()

    def called(self, module, chunk):
        if not self.has_body(module, chunk):
            return set()
        means = self.names(module, chunk)[2]
        found = set()

        def value(tree):
            if tree[0] == "call" and tree[1] in means:
                symbol = means[tree[1]]
                number = self.declared[symbol[1]][symbol[2]][1]
                if self.sort(symbol) == "def":
                    found.add((symbol[1], number))
                if self.sort(symbol) == "method":
                    trait = ("item", symbol[1], self.items[symbol[1], number][1][0])
                    found.update(body for pair, body in self.impls.items() if pair[0] == trait)
            for part in tree[4] if tree[0] == "call" else tree[3:]:
                if isinstance(part, tuple):
                    value(part)
        value(self.items[module, chunk][-1])
        return found

    def cyclic(self):
        bodies = [body for body in sorted(self.items) if self.has_body(*body)]
        steps = {body: self.called(*body) for body in bodies}
        found = []
        for body in bodies:
            reached, waiting = set(), [body]
            while waiting:
                for step in steps[waiting.pop()]:
                    if step not in reached:
                        reached.add(step)
                        waiting.append(step)
            if body in reached:
                found.append(body)
        return found

    def result(self, module, chunk):
        item = self.items[module, chunk]
        if item[4] is not None:
            return self.kind_named(module, chunk, item[4])
        if (module, chunk) not in self.results:
            self.results[module, chunk] = (UNKNOWN if (module, chunk) in self.cyclic()
                                           else self.judged(module, chunk)[3])
        return self.results[module, chunk]

    def judged(self, module, chunk):
        """(kinds in the order of nodes, occurrences of fields, problems, kind of the body) of a chunk."""
        item = self.items[module, chunk]
        if not self.has_body(module, chunk):
            double = (module, chunk) in self.later
            return [], [], [(item[1][1], item[1][1] + len(item[1][0]), "double")] if double else [], UNKNOWN
        judge = BodyJudge(self, module, chunk)
        told = judge.prepare()
        kind = judge.value(item[-1])
        if told is not None:
            judge.equal(kind, told, item[-1])
        judge.at_the_end()
        if (module, chunk) in self.cyclic():
            judge.problems.append((item[1][1], item[1][1] + len(item[1][0]), "cycle"))

        def closed(kind):
            return UNKNOWN if isinstance(final(kind), Open) else final(kind)
        kinds = [(start, end, closed(kind)) for start, end, kind in judge.kinds]
        return kinds, sorted(judge.fields), sorted(set(judge.problems)), closed(kind)

    # Whole modules

    def problems(self, module):
        found = set()
        for chunk in self.chunks_of(module):
            shift = self.shift[module, chunk]
            for start, end, code in self.names(module, chunk)[1] + self.judged(module, chunk)[2]:
                found.add((shift + start, shift + end, code))
        return sorted(found)

    def occurrences(self, module):
        found = []
        for chunk in self.chunks_of(module):
            shift = self.shift[module, chunk]
            for start, end, symbol, declares in self.names(module, chunk)[0] + self.judged(module, chunk)[1]:
                found.append((shift + start, shift + end, symbol, declares))
        return sorted(found, key=lambda row: row[0])


class BodyJudge:
    def __init__(self, reference, module, chunk):
        self.reference, self.module, self.chunk = reference, module, chunk
        self.means = reference.names(module, chunk)[2]
        self.locals, self.traits = {}, {}
        self.kinds, self.fields, self.problems, self.calls = [], [], [], []

    def prepare(self):
        reference, module, chunk = self.reference, self.module, self.chunk
        item = reference.items[module, chunk]
        if item[0] == "def":
            for mark, kind in item[3]:
                self.locals["local", module, chunk, mark[1]] = reference.kind_named(module, chunk, kind)
            for mark, trait in item[2]:
                self.traits["bound", module, chunk, mark[1]] = trait and self.means.get(trait[1])
            return reference.kind_named(module, chunk, item[4]) if item[4] else None
        trait, target = self.means[item[1][1]], self.means[item[2][1]]
        number = reference.declared[trait[1]][trait[2]][1]
        other = reference.items[trait[1], number]
        self.locals["local", trait[1], number, other[3][1]] = (
            ("data",) + target[1:] if target[0] == "item" else (target[1],))
        for mark, kind in other[4]:
            self.locals["local", trait[1], number, mark[1]] = reference.kind_named(trait[1], number, kind)
        return reference.kind_named(trait[1], number, other[5])

    def equal(self, one, other, tree):
        one, other = final(one), final(other)
        if one is other or UNKNOWN in (one, other):
            return
        if isinstance(one, Open):
            one.kind = other
        elif isinstance(other, Open):
            other.kind = one
        elif one != other:
            self.problems.append((tree[1], tree[2], "kind"))

    def value(self, tree):
        at = len(self.kinds)
        self.kinds.append(None)
        kind = getattr(self, "value_" + tree[0])(tree)
        self.kinds[at] = (tree[1], tree[2], kind)
        return kind

    def value_number(self, tree):
        return INT

    def value_truth(self, tree):
        return BOOL

    def value_group(self, tree):
        return self.value(tree[3])

    def value_name(self, tree):
        symbol = self.means.get(tree[1])
        return UNKNOWN if symbol is None else self.locals[symbol]

    def value_not(self, tree):
        self.equal(self.value(tree[3]), BOOL, tree[3])
        return BOOL

    def value_minus(self, tree):
        self.equal(self.value(tree[3]), INT, tree[3])
        return INT

    def value_binary(self, tree):
        left, right = self.value(tree[4]), self.value(tree[5])
        if tree[3] == "==":
            self.equal(left, right, tree[5])
            return BOOL
        part = BOOL if tree[3] in ("and", "or") else INT
        self.equal(left, part, tree[4])
        self.equal(right, part, tree[5])
        return INT if tree[3] in "+-*/" else BOOL

    def value_if(self, tree):
        test, yes, no = self.value(tree[3]), self.value(tree[4]), self.value(tree[5])
        self.equal(test, BOOL, tree[3])
        self.equal(yes, no, tree[5])
        return yes

    def value_let(self, tree):
        self.locals["local", self.module, self.chunk, tree[4]] = self.value(tree[5])
        return self.value(tree[6])

    def value_loop(self, tree):
        first = self.value(tree[5])
        self.locals["local", self.module, self.chunk, tree[4]] = first
        self.equal(self.value(tree[6]), INT, tree[6])
        self.equal(self.value(tree[7]), first, tree[7])
        return first

    def value_field(self, tree):
        target = final(self.value(tree[3]))
        place = (tree[2] - len(tree[4]), tree[2])
        if isinstance(target, Open):
            self.problems.append(place + ("open",))
        elif target[0] == "data":
            number = self.reference.declared[target[1]][target[2]][1]
            for mark, kind in self.reference.items[target[1], number][2]:
                if mark[0] == tree[4]:
                    self.fields.append(place + (("field",) + target[1:] + (tree[4],), False))
                    return self.reference.kind_named(target[1], number, kind)
            self.problems.append(place + ("field",))
        elif target != UNKNOWN:
            self.problems.append(place + ("field",))
        return UNKNOWN

    def value_call(self, tree):
        given = [self.value(part) for part in tree[4]]
        symbol = self.means.get(tree[1])
        place = (tree[1], tree[1] + len(tree[3]))
        if symbol is None:
            return UNKNOWN
        reference = self.reference
        module, number = symbol[1], reference.declared[symbol[1]][symbol[2]][1]
        item = reference.items[module, number]
        sort = reference.sort(symbol)
        made = {}
        if sort == "data":
            wanted = [reference.kind_named(module, number, kind) for _, kind in item[2]]
            result = ("data",) + symbol[1:]
        elif sort == "method":
            self_kind = Open()
            made[self_kind] = ("item", module, item[1][0])
            wanted = [self_kind] + [reference.kind_named(module, number, kind) for _, kind in item[4]]
            result = reference.kind_named(module, number, item[5])
        else:
            opens = {}
            for mark, trait in item[2]:
                bound = Open()
                opens["bound", module, number, mark[1]] = bound
                made[bound] = trait and reference.names(module, number)[2].get(trait[1])
            wanted = [reference.kind_named(module, number, kind) for _, kind in item[3]]
            wanted = [opens.get(kind, kind) for kind in wanted]
            result = reference.result(module, number)
            result = opens.get(result, result)
        if len(given) != len(wanted):
            self.problems.append(place + ("count",))
            return UNKNOWN
        self.calls.append((place, made))
        for part, kind, want in zip(tree[4], given, wanted):
            self.equal(kind, want, part)
        return result

    def at_the_end(self):
        for place, made in self.calls:
            if any(isinstance(final(kind), Open) for kind in made):
                self.problems.append(place + ("open",))
            elif not all(self.fits(final(kind), trait) for kind, trait in made.items()):
                self.problems.append(place + ("trait",))

    def fits(self, kind, trait):
        if trait is None or kind == UNKNOWN:
            return True
        if kind[0] == "bound":
            return self.traits[kind] == trait
        target = ("item",) + kind[1:] if kind[0] == "data" else ("builtin", kind[0])
        return (trait, target) in self.reference.impls

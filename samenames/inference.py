"""Rules for the keeper: the kinds of the trees of a body."""

from samenames.kinds import BOOL, INT, UNKNOWN, meanings, target_of
from samenames.readings import sort_of_symbol
from samenames.trees import children, nodes

# The built-in kinds that the parts of a binary have to be, and those that are not Bool themselves; "==" has
# parts of any kind.
PARTS = {"+": "Int", "-": "Int", "*": "Int", "/": "Int", "<": "Int", "and": "Bool", "or": "Bool"}
WHOLE = {"+": "Int", "-": "Int", "*": "Int", "/": "Int"}


def evaluated(value):
    """Return the steps in which the trees of a value get their kinds.

    A step is ("tree", tree), behind those of the trees inside of it, or
    ("count", loop) behind the count of a loop and before its step.
    """
    found = []
    waiting = [("inside", value)]
    while waiting:
        word, tree = waiting.pop()
        if word != "inside":
            found.append((word, tree))
            continue
        parts = [("inside", part) for part in children(tree)]
        if tree[0] == "loop":
            parts.insert(2, ("count", tree))
        waiting.append(("tree", tree))
        waiting.extend(parts[::-1])
    return found


class Judge:
    """Finds the kinds of the trees of one body."""

    def __init__(self, keeper, module, chunk):
        self.keeper = keeper
        self.symbols = meanings(keeper, module, chunk)
        # The kinds of the parameters, and the places of the trees that give variables their kinds.
        self.given = {}
        self.source = {}
        # The traits of the bounds of the item.
        self.traits = {}
        # What each open kind stands for, or None; the kind ("open", k) is number k.
        self.stands = []
        self.tree_kinds = {}
        self.calls = []
        self.fields_told = []
        self.wrong = []

    def resolved(self, kind):
        """Return what a kind stands for."""
        while kind[0] == "open" and self.stands[kind[1]] is not None:
            kind = self.stands[kind[1]]
        return kind

    def closed(self, kind):
        """Return what a kind stands for at the end."""
        found = self.resolved(kind)
        return UNKNOWN if found[0] == "open" else found

    def kind(self, tree):
        """Return the kind that a tree got."""
        return self.resolved(self.tree_kinds[(tree[1], tree[2])])

    def problem(self, start, end, code):
        """Tell a problem."""
        self.wrong.append((start, end, code))

    def equal(self, tree, other):
        """Make the kind of a tree equal with another one; the problem is at the tree."""
        one = self.kind(tree)
        other = self.resolved(other)
        if one == other or UNKNOWN in (one, other):
            return
        if one[0] == "open":
            self.stands[one[1]] = other
        elif other[0] == "open":
            self.stands[other[1]] = one
        else:
            self.problem(tree[1], tree[2], "kind")

    def judge(self, value):
        """Give all trees of the value of the body their kinds."""
        for word, tree in evaluated(value):
            if word == "count":
                self.equal(tree[6], INT)
            else:
                self.tree_kinds[(tree[1], tree[2])] = self.rule(tree)

    def rule(self, tree):
        """Return the kind of a tree, when those inside of it have theirs."""
        match tree[0]:
            case "number":
                return INT
            case "truth":
                return BOOL
            case "group":
                return self.kind(tree[3])
            case "name":
                return self.name(tree)
            case "call":
                return self.call(tree)
            case "field":
                return self.field(tree)
            case "binary":
                return self.binary(tree)
            case "not":
                self.equal(tree[3], BOOL)
                return BOOL
            case "minus":
                self.equal(tree[3], INT)
                return INT
            case "if":
                self.equal(tree[3], BOOL)
                self.equal(tree[5], self.kind(tree[4]))
                return self.kind(tree[4])
            case "let":
                return self.kind(tree[6])
            case _:
                self.equal(tree[7], self.kind(tree[5]))
                return self.kind(tree[5])

    def name(self, tree):
        """Return the kind of a name."""
        symbol = self.symbols.get(tree[1])
        if symbol in self.given:
            return self.given[symbol]
        if symbol in self.source:
            return self.tree_kinds[self.source[symbol]]
        return UNKNOWN

    def binary(self, tree):
        """Return the kind of a binary."""
        if tree[3] == "==":
            self.equal(tree[5], self.kind(tree[4]))
        else:
            self.equal(tree[4], (PARTS[tree[3]],))
            self.equal(tree[5], (PARTS[tree[3]],))
        return (WHOLE.get(tree[3], "Bool"),)

    def called(self, tree):
        """Return bounds, fields and result of what a call means, or None if the name is a problem."""
        symbol = self.symbols.get(tree[1])
        if symbol is None or sort_of_symbol(self.keeper, symbol) not in ("data", "def", "method"):
            return None
        _, number, _ = self.keeper.ask(("found", symbol[1], symbol[2]))
        bounds, fields, result = self.keeper.ask(("signature", symbol[1], number))
        if result is None:
            result = self.keeper.ask(("result", symbol[1], number))
        return (bounds, fields, result)

    def call(self, tree):
        """Return the kind of a call."""
        found = self.called(tree)
        if found is None:
            return UNKNOWN
        bounds, fields, result = found
        if len(tree[4]) != len(fields):
            self.problem(tree[1], tree[1] + len(tree[3]), "count")
            return UNKNOWN
        made = {}
        for bound, _ in bounds:
            made[bound] = ("open", len(self.stands))
            self.stands.append(None)
        self.calls.append((tree, [(made[bound], trait) for bound, trait in bounds]))
        for argument, field in zip(tree[4], fields):
            self.equal(argument, made.get(field[2], field[2]))
        return made.get(result, result)

    def field(self, tree):
        """Return the kind of a field, and tell what its name means."""
        kind = self.kind(tree[3])
        start = tree[2] - len(tree[4])
        if kind == UNKNOWN:
            return UNKNOWN
        if kind[0] == "data":
            _, number, _ = self.keeper.ask(("found", kind[1], kind[2]))
            for name, _, found in self.keeper.ask(("signature", kind[1], number))[1]:
                if name == tree[4]:
                    self.fields_told.append((start, tree[2], ("field", kind[1], kind[2], name), False))
                    return found
        self.problem(start, tree[2], "open" if kind[0] == "open" else "field")
        return UNKNOWN

    def look_again(self):
        """Tell the problems of the open kinds that calls made."""
        for tree, made in self.calls:
            kinds = [(self.resolved(kind), trait) for kind, trait in made]
            end = tree[1] + len(tree[3])
            if any([kind[0] == "open" for kind, _ in kinds]):
                self.problem(tree[1], end, "open")
            elif not all([self.has(kind, trait) for kind, trait in kinds]):
                self.problem(tree[1], end, "trait")

    def has(self, kind, trait):
        """Return True if a kind has a trait, or if none is asked for."""
        if trait is None or kind == UNKNOWN:
            return True
        if kind[0] == "bound":
            return self.traits.get(kind) == trait
        pair = (trait, target_of(kind))
        return pair in [row[0] for row in self.keeper.ask(("impls",))]


def prepare_def(judge, module, chunk):
    """Give a judge the parameters and bounds of a def item; return the kind that it tells, or None."""
    bounds, fields, result = judge.keeper.ask(("signature", module, chunk))
    for name, start, kind in fields:
        judge.given[("local", module, chunk, start)] = kind
    for bound, trait in bounds:
        judge.traits[bound] = trait
    return result


def prepare_impl(judge, module, chunk):
    """Give a judge the parameters of an impl item; return the kind of the result of the method."""
    trait, target = judge.keeper.ask(("impl", module, chunk))
    _, number, _ = judge.keeper.ask(("found", trait[1], trait[2]))
    bounds, fields, result = judge.keeper.ask(("signature", trait[1], number))
    own = ("data",) + target[1:] if target[0] == "item" else (target[1],)
    for name, start, kind in fields:
        judge.given[("local", trait[1], number, start)] = own if kind == bounds[0][0] else kind
    return result


def judge_chunk(keeper, module, chunk):
    """Return the kinds of a body, the occurrences of its fields, the problems of the chunk, and the body's kind."""
    role = keeper.ask(("role", module, chunk))
    if role == "":
        return ((), (), (), UNKNOWN)
    item = keeper.ask(("read", module, chunk))[0]
    start, end = item[1][1], item[1][1] + len(item[1][0])
    if role == "double":
        return ((), (), ((start, end, "double"),), UNKNOWN)
    judge = Judge(keeper, module, chunk)
    told = prepare_def(judge, module, chunk) if role == "def" else prepare_impl(judge, module, chunk)
    value = item[-1]
    trees = nodes(value)
    for tree in trees:
        if tree[0] in ("let", "loop"):
            judge.source[("local", module, chunk, tree[4])] = (tree[5][1], tree[5][2])
    judge.judge(value)
    if told is not None:
        judge.equal(value, told)
    judge.look_again()
    if keeper.ask(("circles", module, chunk)):
        judge.problem(start, end, "cycle")
    kinds = [(tree[1], tree[2], judge.closed(judge.kind(tree))) for tree in trees]
    fields = sorted(judge.fields_told, key=lambda row: row[0])
    return (tuple(kinds), tuple(fields), tuple(sorted(set(judge.wrong))), judge.closed(judge.kind(value)))

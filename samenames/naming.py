"""Rules for the keeper: what the names in a chunk mean."""

from samenames.readings import is_other_module, is_void, sort_of_symbol
from samenames.trees import children

# Which sorts of symbols a name may mean, by where it stands.
FITTING = {"trait": ("trait",), "target": ("data", "builtin"), "kind": ("data", "builtin", "local"),
           "value": ("local",), "called": ("def", "data", "method")}
BUILTINS = ("Int", "Bool")


class Naming:
    """Collects the occurrences and the problems of one chunk."""

    def __init__(self, keeper, module, chunk):
        self.keeper = keeper
        self.module = module
        self.chunk = chunk
        self.scope = dict(keeper.ask(("scope", module)))
        self.bound_names = {}
        self.found = []
        self.wrong = []

    def local(self, start):
        """Return the symbol of a local of this chunk."""
        return ("local", self.module, self.chunk, start)

    def problem(self, mark, code):
        """Tell a problem at a mark."""
        self.wrong.append((mark[1], mark[1] + len(mark[0]), code))

    def occur(self, mark, symbol, declares):
        """Tell an occurrence at a mark."""
        self.found.append((mark[1], mark[1] + len(mark[0]), symbol, declares))

    def declare_item(self, mark):
        """Tell the mark of what the module declares."""
        self.occur(mark, ("item", self.module, mark[0]), True)

    def use(self, mark, symbol, where):
        """Tell a name that means a symbol, or None for nothing, at such a place."""
        if symbol is None:
            self.problem(mark, "unknown")
            return
        self.occur(mark, symbol, False)
        sort = sort_of_symbol(self.keeper, symbol) if symbol[0] == "item" else symbol[0]
        if sort not in FITTING[where]:
            self.problem(mark, "sort")

    def use_trait(self, mark):
        """Tell the name of a trait."""
        self.use(mark, self.scope.get(mark[0]), "trait")

    def use_kind(self, mark, where):
        """Tell the name of a kind."""
        name = mark[0]
        builtin = ("builtin", name) if name in BUILTINS else None
        self.use(mark, self.bound_names.get(name, self.scope.get(name, builtin)), where)

    def declare_each(self, marks, owner):
        """Tell marks whose names are doubled among themselves: fields of a data item with a name, or locals."""
        held = {}
        for mark in marks:
            if mark[0] in held:
                self.problem(mark, "double")
            elif owner:
                self.occur(mark, ("field", self.module, owner, mark[0]), True)
            else:
                self.occur(mark, self.local(mark[1]), True)
            held[mark[0]] = True

    def read_import(self, item, doubled):
        """Tell the names of an import, of which some are doubled."""
        _, module, marks = item
        if module[0] in self.keeper.ask(("modules",)):
            self.occur(module, ("module", module[0]), False)
        if not is_other_module(self.keeper, self.module, module[0]):
            self.problem(module, "unknown")
            return
        for mark in marks:
            if mark[1] in doubled:
                continue
            if mark[0] in self.scope:
                self.occur(mark, self.scope[mark[0]], False)
            else:
                self.problem(mark, "unknown")

    def read_data(self, item):
        """Tell the names of a data item."""
        _, mark, fields = item
        self.declare_item(mark)
        self.declare_each([field[0] for field in fields], mark[0])
        for field in fields:
            self.use_kind(field[1], "kind")

    def read_trait(self, item):
        """Tell the names of a trait item."""
        _, mark, method, first, fields, result = item
        self.declare_item(mark)
        self.declare_item(method)
        self.declare_each([first] + [field[0] for field in fields], "")
        for field in fields:
            self.use_kind(field[1], "kind")
        self.use_kind(result, "kind")

    def read_impl(self, item):
        """Tell the names of an impl item."""
        _, trait, target, value = item
        self.use_trait(trait)
        self.use_kind(target, "target")
        self.read_value(item, value)

    def read_def(self, item):
        """Tell the names of a def item."""
        _, mark, bounds, fields, result, value = item
        self.declare_item(mark)
        self.declare_each([bound[0] for bound in bounds], "")
        for bound in bounds:
            self.bound_names.setdefault(bound[0][0], self.local(bound[0][1]))
            if bound[1] is not None:
                self.use_trait(bound[1])
        self.declare_each([field[0] for field in fields], "")
        for field in fields:
            self.use_kind(field[1], "kind")
        if result is not None:
            self.use_kind(result, "kind")
        self.read_value(item, value)

    def read_value(self, item, value):
        """Tell the names of the value of an item."""
        given = parameters(self.keeper, self.module, self.chunk, item)
        for tree, around in placed(value, given, self.module, self.chunk):
            if tree[0] in ("let", "loop"):
                self.occur((tree[3], tree[4]), self.local(tree[4]), True)
            elif tree[0] in ("name", "call"):
                mark = (tree[3], tree[1])
                symbol = around.get(tree[3], self.scope.get(tree[3]))
                self.use(mark, symbol, "value" if tree[0] == "name" else "called")


def placed(value, given, module, chunk):
    """Return each tree of a value, in the order of nodes, with the locals of the place where it begins."""
    found = []
    waiting = [(value, given)]
    while waiting:
        tree, around = waiting.pop()
        found.append((tree, around))
        inside = [(part, around) for part in children(tree)]
        if tree[0] in ("let", "loop"):
            # The variable is known in the last part alone: the body or the step.
            within = {name: around[name] for name in around}
            within[tree[3]] = ("local", module, chunk, tree[4])
            inside[-1] = (inside[-1][0], within)
        waiting.extend(inside[::-1])
    return found


def parameters(keeper, module, chunk, item):
    """Return the parameters that the names in the value of an item may mean, by name."""
    given = {}
    if item[0] == "def":
        for field in item[3]:
            given.setdefault(field[0][0], ("local", module, chunk, field[0][1]))
        return given
    trait = dict(keeper.ask(("scope", module))).get(item[1][0])
    if trait is None or sort_of_symbol(keeper, trait) != "trait":
        return given
    _, number, _ = keeper.ask(("found", trait[1], trait[2]))
    _, _, _, first, fields, _ = keeper.ask(("read", trait[1], number))[0]
    for mark in [first] + [field[0] for field in fields]:
        given.setdefault(mark[0], ("local", trait[1], number, mark[1]))
    return given


def names_of(keeper, module, chunk):
    """Return the occurrences and the problems of a chunk, those that rest on kinds left out."""
    item, failure = keeper.ask(("read", module, chunk))
    if failure is not None:
        return ((), ((failure[0], failure[1], "syntax"),))
    naming = Naming(keeper, module, chunk)
    doubled = [row[1:] for row in keeper.ask(("intro", module))[1] if row[0] == chunk]
    naming.wrong.extend([(start, end, "double") for start, end in doubled])
    if item[0] == "import":
        naming.read_import(item, [start for start, _ in doubled])
    elif not is_void(keeper, module, chunk):
        if item[0] == "data":
            naming.read_data(item)
        elif item[0] == "trait":
            naming.read_trait(item)
        elif item[0] == "impl":
            naming.read_impl(item)
        elif item[0] == "def":
            naming.read_def(item)
    return (tuple(sorted(naming.found, key=lambda row: row[0])), tuple(sorted(set(naming.wrong))))


def locals_of(keeper, module, chunk, offset):
    """Return the locals that a name at an offset of a chunk would mean as a value, by name."""
    item = keeper.ask(("read", module, chunk))[0]
    if item[0] not in ("def", "impl") or is_void(keeper, module, chunk):
        return {}
    found = {}
    for tree, around in placed(item[-1], parameters(keeper, module, chunk, item), module, chunk):
        if tree[1] <= offset <= tree[2]:
            found = around
    return {name: found[name] for name in found}

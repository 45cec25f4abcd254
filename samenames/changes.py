"""Changes of names, values and parameters."""

from samenames.answers import written_kind
from samenames.errors import Refused
from samenames.facts import keeper_of
from samenames.kinds import target_of
from samenames.readings import sort_of_symbol
from samenames.source import Source
from samenames.tokens import is_name
from samenames.trees import nodes, tree_at
from samenames.weave import changed, import_places, organised, plain, settled, spliced, taken

# The forms of trees that are safe if their parts are.
SAFE = ("number", "truth", "name", "group", "not", "minus", "field", "if", "let")


def rename(program, module, offset, new):
    """Return the program in which the symbol at an offset has another name. Raises Refused."""
    source = Source(program)
    symbol = source.symbol_at(module, offset)
    if symbol is None or symbol[0] in ("builtin", "module"):
        raise Refused("symbol", module, offset)
    if not is_name(new):
        raise Refused("name", module, offset)
    woven = {}
    for other in program:
        rows = [row for row in source.occurrences(other) if row[2] == symbol]
        woven[other] = changed(source, other, [(row[0], row[1], [(new, symbol, 0, row[3])]) for row in rows])
    instead = {} if symbol[0] == "local" else {symbol: symbol[:-1] + (new,)}
    return settled(source, woven, instead)


def all_safe(keeper, module, chunk, tree):
    """Return True if a tree of the body of a chunk is safe."""
    symbols = {row[0]: row[2] for row in keeper.ask(("names", module, chunk))[0]}
    for node in nodes(tree):
        if node[0] == "call":
            symbol = symbols.get(node[1])
            if symbol is None or sort_of_symbol(keeper, symbol) != "data":
                return False
        elif node[0] not in SAFE and (node[0] != "binary" or node[3] == "/"):
            return False
    return True


def is_safe(program, module, chunk, tree):
    """Return True if a tree of the body of a chunk is safe, otherwise False."""
    return all_safe(keeper_of(program), module, chunk, tree)


def def_at(source, module, offset):
    """Return the symbol of the def item at an offset, or refuse."""
    symbol = source.symbol_at(module, offset)
    if symbol is None or source.symbol_sort(symbol) != "def":
        raise Refused("symbol", module, offset)
    return symbol


def field_places(source, symbol):
    """Return the places of the fields of a def item in the text of its module."""
    chunk = source.chunk_of(symbol)
    shift = source.places(symbol[1])[chunk][0]
    fields = source.item(symbol[1], chunk)[3]
    return [(shift + mark[1], shift + kind[1] + len(kind[0])) for mark, kind in fields]


def place_lists(source, symbol):
    """Return pairs of a module and places: those of the fields of a def item, and those of the arguments of calls."""
    found = [(symbol[1], field_places(source, symbol))]
    for module, _, shift, tree in source.calls_of(symbol):
        found.append((module, [(shift + part[1], shift + part[2]) for part in tree[4]]))
    return found


def reorder(program, module, offset, order):
    """Return the program in which the fields of a def item stand in another order. Raises Refused."""
    source = Source(program)
    symbol = def_at(source, module, offset)
    many = len(field_places(source, symbol))
    if sorted(order) != list(range(many)):
        raise Refused("order", module, offset)
    woven = {}
    for other in program:
        # A single field stays where it is.
        lists = sorted([places for name, places in place_lists(source, symbol) if name == other and many > 1])
        woven[other] = rearranged(source, other, (0, len(program[other])), lists, order)
    return settled(source, woven, {})


def rearranged(source, module, whole, lists, order):
    """Return the rows of a part of a text in which the places of each list have another order."""
    rows = []
    at, end = whole
    for places in lists:
        # Lists inside of the last one were done with it, and those around the part are none of it.
        if places[0][0] < at or places[-1][1] > end:
            continue
        for number, place in enumerate(places):
            rows.extend(taken(source, module, at, place[0], 0))
            rows.extend(rearranged(source, module, places[order[number]], lists, order))
            at = place[1]
    rows.extend(taken(source, module, at, end, 0))
    return rows


def drop_parameter(program, module, offset, index):
    """Return the program in which a def item has a field less. Raises Refused."""
    source = Source(program)
    symbol = def_at(source, module, offset)
    fields = field_places(source, symbol)
    if not 0 <= index < len(fields):
        raise Refused("order", module, offset)
    check_unused(source, symbol, fields[index][0])
    check_arguments(source, symbol, index)
    woven = {}
    for other in program:
        places = [dropped_place(rows, index) for name, rows in place_lists(source, symbol) if name == other]
        # The places do not overlap: no argument that goes away has a call of the item, which would not be safe.
        woven[other] = changed(source, other, [(start, end, []) for start, end in places])
    return settled(source, woven, {})


def dropped_place(places, index):
    """Return the place that goes away with one of several places."""
    if len(places) == 1:
        return places[0]
    if index == 0:
        return (places[0][0], places[1][0])
    return (places[index - 1][1], places[index][1])


def check_unused(source, symbol, start):
    """Refuse if the field that begins at a start is used."""
    meant = source.symbol_at(symbol[1], start)
    for row in source.occurrences(symbol[1]):
        if row[2] == meant and not row[3]:
            raise Refused("used", symbol[1], row[0])


def check_arguments(source, symbol, index):
    """Refuse if an argument for a field is not safe."""
    found = []
    for module, chunk, shift, tree in source.calls_of(symbol):
        if not all_safe(source.keeper, module, chunk, tree[4][index]):
            found.append((module, shift + tree[4][index][1]))
    if found:
        least = min(found)
        raise Refused("unsafe", least[0], least[1])


def extract(program, module, start, end, name):
    """Return the program in which the value at a place is that of a new def item. Raises Refused."""
    source = Source(program)
    chunk, shift, tree = body_tree(source, module, start, end)
    if tree is None:
        raise Refused("place", module, start)
    if not is_name(name):
        raise Refused("name", module, start)
    free = free_locals(source, module, chunk, tree)
    kinds = kinds_at(source, module, chunk)
    told = [kinds[(part[1], part[2])] for part in free] + [kinds[(tree[1], tree[2])]]
    if any([not is_named(source, module, kind) for kind in told]):
        raise Refused("kind", module, start)
    meanings = source.meanings(module)
    symbols = [meanings[shift + part[1]] for part in free]
    given = [(part[3], symbol) for part, symbol in zip(free, symbols)]
    call = named(name, ("item", module, name), 0, False) + plain("(")
    call += listed([named(text, symbol, 0, False) for text, symbol in given]) + plain(")")
    text = program[module]
    added = plain("\n" if not text.endswith("\n") else "") + plain("def ")
    added += named(name, ("item", module, name), 1, True) + new_bounds(source, module, chunk, told) + plain("(")
    fields = [named(part[0], part[1], 1, True) + plain(": ") + named_kind(source, kind)
              for part, kind in zip(given, told)]
    added += listed(fields) + plain("): ") + named_kind(source, told[-1]) + plain(" = ")
    added += taken(source, module, start, end, 1) + plain("\n")
    changes = [(start, end, call), (len(text), len(text), added)]
    return settled(source, {module: changed(source, module, changes)}, {})


def is_named(source, module, kind):
    """Return False for the kind of a data item whose name the scope of a module does not bind to it."""
    scope = dict(source.keeper.ask(("scope", module)))
    return kind[0] != "data" or scope.get(kind[2]) == target_of(kind)


def body_tree(source, module, start, end):
    """Return the chunk, its start and the tree of a body at a place, or three times None."""
    for chunk, shift, value in source.bodies(module):
        tree = tree_at(value, start - shift, end - shift)
        if tree is not None:
            return (chunk, shift, tree)
    return (None, None, None)


def kinds_at(source, module, chunk):
    """Return the kinds of the trees of a body by their places in the chunk."""
    return {(start, end): kind for start, end, kind in source.keeper.ask(("judged", module, chunk))[0]}


def free_locals(source, module, chunk, tree):
    """Return the first name tree of each local that is meant in a tree and not declared in it."""
    symbols = {row[0]: row[2] for row in source.keeper.ask(("names", module, chunk))[0]}
    own = [("local", module, chunk, node[4]) for node in nodes(tree) if node[0] in ("let", "loop")]
    found = {}
    for node in nodes(tree):
        if node[0] == "name" and symbols[node[1]] not in own:
            found.setdefault(symbols[node[1]], node)
    return list(found.values())


def named(text, symbol, group, declares):
    """Return the rows of a name."""
    return [(text, symbol, group, declares)]


def named_kind(source, kind):
    """Return the rows of the name of a kind in a new item."""
    symbol = ("local",) + kind[1:] if kind[0] == "bound" else target_of(kind)
    return named(written_kind(source.keeper, kind), symbol, 1, False)


def listed(parts):
    """Return the rows of parts with commas between them."""
    rows = []
    for part in parts:
        if rows:
            rows.extend(plain(", "))
        rows.extend(part)
    return rows


def new_bounds(source, module, chunk, kinds):
    """Return the rows of those bounds of an item that occur in kinds, in square brackets, or none."""
    item = source.item(module, chunk)
    parts = []
    for mark, trait in item[2] if item[0] == "def" else ():
        if ("bound", module, chunk, mark[1]) in kinds:
            part = named(mark[0], ("local", module, chunk, mark[1]), 1, True)
            if trait is not None:
                shift = source.places(module)[chunk][0]
                part += plain(": ") + named(trait[0], source.symbol_at(module, shift + trait[1]), 1, False)
            parts.append(part)
    return plain("[") + listed(parts) + plain("]") if parts else []


def inline(program, module, offset):
    """Return the program in which a value stands in place of a local or a call. Raises Refused."""
    source = Source(program)
    row = source.occurrence_at(module, offset)
    for chunk, shift, value in source.bodies(module):
        for tree in nodes(value):
            if row is None:
                continue
            if tree[0] == "let" and row[2] == ("local", module, chunk, tree[4]):
                return inline_let(source, module, chunk, shift, tree)
            if tree[0] == "call" and shift + tree[1] == row[0] and source.symbol_sort(row[2]) == "def":
                return inline_call(source, module, shift, tree, row[2])
    raise Refused("symbol", module, offset)


def inline_let(source, module, chunk, shift, tree):
    """Put the value of a let in place of the uses of its local."""
    value, body = tree[5], tree[6]
    if not all_safe(source.keeper, module, chunk, value):
        raise Refused("unsafe", module, shift + value[1])
    symbol = ("local", module, chunk, tree[4])
    uses = [row for row in source.occurrences(module) if row[2] == symbol and not row[3]]
    changes = []
    for number, row in enumerate(uses):
        copied = taken(source, module, shift + value[1], shift + value[2], number + 1)
        changes.append((row[0], row[1], plain("(") + copied + plain(")")))
    rows = plain("(") + spliced(source, module, shift + body[1], shift + body[2], changes) + plain(")")
    return settled(source, {module: changed(source, module, [(shift + tree[1], shift + tree[2], rows)])}, {})


def inline_call(source, module, shift, tree, symbol):
    """Put the value of a def item in place of a call."""
    chunk = source.chunk_of(symbol)
    item = source.item(symbol[1], chunk)
    rows = plain("(")
    for field, part in zip(item[3], tree[4]):
        name, start = field[0]
        rows += plain("let ") + named(name, ("local", symbol[1], chunk, start), 1, True) + plain(" = ")
        rows += taken(source, module, shift + part[1], shift + part[2], 0) + plain(" in ")
    at = source.places(symbol[1])[chunk][0]
    rows += taken(source, symbol[1], at + item[5][1], at + item[5][2], 1) + plain(")")
    changes = [(shift + tree[1], shift + tree[2], rows)]
    if symbol[1] == module:
        return settled(source, {module: changed(source, module, changes)}, {})
    rest = changed(source, module, changes + import_places(source, module))
    return settled(source, {module: organised(module, rest, {})}, {})

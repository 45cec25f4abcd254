"""Looks at a text: colours, hints, signatures, callers and folds."""

from samenames.answers import written_kind
from samenames.bodies import bodies_of, fields_end
from samenames.chunks import chunks
from samenames.facts import keeper_of
from samenames.kinds import meanings
from samenames.readings import is_void, sort_of_symbol
from samenames.texts import line_column
from samenames.tokens import tokens
from samenames.trees import nodes

# The colours of symbols that are no locals, by the sort of an item or the first word of the symbol.
COLOURS = {"module": "module", "data": "kind", "builtin": "kind", "trait": "trait", "def": "function",
           "method": "function", "field": "field"}


def is_bound(keeper, symbol):
    """Return True if the symbol of a local is that of a bound."""
    _, module, chunk, start = symbol
    item = keeper.ask(("read", module, chunk))[0]
    return item[0] == "def" and start in [bound[0][1] for bound in item[2]]


def colour_of(keeper, symbol):
    """Return the colour of a name that means a symbol, or None for nothing."""
    if symbol is None:
        return "unknown"
    if symbol[0] == "local":
        return "kind" if is_bound(keeper, symbol) else "local"
    return COLOURS[sort_of_symbol(keeper, symbol) if symbol[0] == "item" else symbol[0]]


def colours(program, module):
    """Return the list of the colours (start, end, sort) of the tokens of a module."""
    keeper = keeper_of(program)
    symbols = {row[0]: row[2] for row in keeper.ask(("occurrences", module))}
    found = []
    for sort, start, end in tokens(program[module]):
        found.append((start, end, colour_of(keeper, symbols.get(start)) if sort == "name" else sort))
    return found


def hints(program, module):
    """Return the ascending list of the hints (offset, text) of a module."""
    keeper = keeper_of(program)
    keeper.ask(("below", module))
    found = []
    for chunk, place in enumerate(keeper.ask(("cut", module))):
        rows = result_hints(keeper, module, chunk) + variable_hints(keeper, module, chunk)
        found.extend([(place[0] + at, ": " + written_kind(keeper, kind)) for at, kind in rows])
    return sorted(found)


def result_hints(keeper, module, chunk):
    """Return the offset in the chunk and the kind of a result that is not told."""
    item = keeper.ask(("read", module, chunk))[0]
    if item[0] != "def" or item[4] is not None or is_void(keeper, module, chunk):
        return []
    return [(fields_end(keeper, module, chunk), keeper.ask(("result", module, chunk)))]


def variable_hints(keeper, module, chunk):
    """Return the offsets in the chunk and the kinds of the variables of a body."""
    kinds = {(start, end): kind for start, end, kind in keeper.ask(("judged", module, chunk))[0]}
    if not kinds:
        return []
    trees = [tree for tree in nodes(keeper.ask(("read", module, chunk))[0][-1]) if tree[0] in ("let", "loop")]
    return [(tree[4] + len(tree[3]), kinds[(tree[5][1], tree[5][2])]) for tree in trees]


def signature_at(program, module, offset):
    """Return the signature (name, parameters, index) at an offset, or None."""
    keeper = keeper_of(program)
    found = None
    for chunk, shift, item in bodies_of(keeper, module):
        for tree in nodes(item[-1]):
            if tree[0] == "call" and shift + tree[1] < offset <= shift + tree[2]:
                found = (chunk, shift, tree)
    if found is None:
        return None
    chunk, shift, tree = found
    symbol = meanings(keeper, module, chunk).get(tree[1])
    if symbol is None or sort_of_symbol(keeper, symbol) not in ("def", "data", "method"):
        return None
    index = len([part for part in tree[4] if shift + part[2] < offset])
    return (tree[3], parameter_texts(keeper, symbol), index)


def parameter_texts(keeper, symbol):
    """Return the texts of the parameters of a def item, a data item or a method."""
    sort, chunk, _ = keeper.ask(("found", symbol[1], symbol[2]))
    rows = keeper.ask(("signature", symbol[1], chunk))[1]
    texts = [name + ": " + written_kind(keeper, kind) for name, _, kind in rows]
    if sort == "method":
        # The kind of the first parameter is another one in each call.
        texts[0] = rows[0][0]
    return tuple(texts)


def callers(program, module, offset):
    """Return the ascending list of the bodies (module, start) that call what the name at an offset means."""
    keeper = keeper_of(program)
    symbols = [row[2] for row in keeper.ask(("occurrences", module)) if row[0] <= offset < row[1]]
    if not symbols or sort_of_symbol(keeper, symbols[0]) not in ("def", "method"):
        return []
    found = []
    for other in keeper.ask(("modules",)):
        for chunk, shift, item in bodies_of(keeper, other):
            meant = meanings(keeper, other, chunk)
            if symbols[0] in [meant.get(tree[1]) for tree in nodes(item[-1]) if tree[0] == "call"]:
                found.append((other, shift + item[1][1]))
    return found


def folds(program, module):
    """Return the list of (first line, last line) of the chunks of a module that have tokens in a later line."""
    text = program[module]
    found = []
    for start, end in chunks(text):
        row = tokens(text[start:end])
        first = line_column(text, start)[0]
        last = line_column(text, start + row[-1][1])[0] if row else first
        if first != last:
            found.append((first, last))
    return found

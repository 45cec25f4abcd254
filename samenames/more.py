"""More changes: tidying, kinds of results that are told or not, and imports that are offered."""

from samenames.bodies import fields_end
from samenames.changes import def_at, is_named, named_kind
from samenames.errors import Refused
from samenames.facts import keeper_of
from samenames.printer import tidied
from samenames.source import Source
from samenames.texts import apply_edit
from samenames.weave import changed, names_in_chunks, plain, settled


def tidy(program, module):
    """Return the program in which the text of a module is tidied. Raises Refused."""
    source = Source(program)
    text = tidied(source.texts[module])
    rows = []
    at = 0
    # The names of a sound program are its occurrences, and they stand in the same order as before.
    for place, row in zip(names_in_chunks(text), source.occurrences(module)):
        rows.extend(plain(text[at:place[0]]))
        rows.append((text[place[0]:place[1]], row[2], 0, row[3]))
        at = place[1]
    rows.extend(plain(text[at:]))
    return settled(source, {module: rows}, {})


def bracket_of(source, symbol):
    """Return the offset in its text behind the bracket that ends the fields of a def item."""
    chunk = source.chunk_of(symbol)
    return source.places(symbol[1])[chunk][0] + fields_end(source.keeper, symbol[1], chunk)


def annotate(program, module, offset):
    """Return the program in which the kind of the result of a def item is told. Raises Refused."""
    source = Source(program)
    symbol = def_at(source, module, offset)
    home, chunk = symbol[1], source.chunk_of(symbol)
    if source.item(home, chunk)[4] is not None:
        raise Refused("told", module, offset)
    kind = source.keeper.ask(("result", home, chunk))
    if not is_named(source, home, kind):
        raise Refused("kind", module, offset)
    at = bracket_of(source, symbol)
    rows = plain(": ") + named_kind(source, kind)
    return settled(source, {home: changed(source, home, [(at, at, rows)])}, {})


def unannotate(program, module, offset):
    """Return the program in which the kind of the result of a def item is not told. Raises Refused."""
    source = Source(program)
    symbol = def_at(source, module, offset)
    home, chunk = symbol[1], source.chunk_of(symbol)
    told = source.item(home, chunk)[4]
    if told is None:
        raise Refused("untold", module, offset)
    end = source.places(home)[chunk][0] + told[1] + len(told[0])
    return settled(source, {home: changed(source, home, [(bracket_of(source, symbol), end, [])])}, {})


def fixes(program, module):
    """Return the ascending list of the fixes (start, name, other) of a module."""
    keeper = keeper_of(program)
    text = program[module]
    found = []
    for chunk, place in enumerate(keeper.ask(("cut", module))):
        if keeper.ask(("read", module, chunk))[0][0] == "import":
            continue
        for start, end, code in keeper.ask(("names", module, chunk))[1]:
            if code == "unknown":
                name = text[place[0] + start:place[0] + end]
                others = [other for other in keeper.ask(("modules",)) if other != module]
                others = [other for other in others if keeper.ask(("found", other, name)) is not None]
                found.extend([(place[0] + start, name, other) for other in others])
    return found


def with_fix(program, module, fix):
    """Return the program with a fix applied. Raises InvalidEdit if the text would be too long."""
    _, name, other = fix
    found = {each: program[each] for each in program}
    found[module] = apply_edit(program[module], (0, 0, "import " + other + ": " + name + "\n"))
    return found

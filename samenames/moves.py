"""Changes that move whole items and their imports."""

from samenames.errors import Refused
from samenames.source import Source
from samenames.weave import changed, import_places, organised, plain, settled, taken


def organise(program, module):
    """Return the program in which the imports of a module are those that it needs. Raises Refused."""
    source = Source(program)
    rows = changed(source, module, import_places(source, module))
    return settled(source, {module: organised(module, rows, {})}, {})


def move(program, module, offset, goal):
    """Return the program in which the item at an offset stands in another module. Raises Refused."""
    source = Source(program)
    symbol = source.symbol_at(module, offset)
    if symbol is None or symbol[0] != "item":
        raise Refused("symbol", module, offset)
    home = symbol[1]
    if goal not in program or goal == home:
        raise Refused("goal", module, offset)
    chunk = source.chunk_of(symbol)
    start, end = source.places(home)[chunk]
    instead = {}
    for row in source.occurrences(home):
        if start <= row[0] < end and row[3] and row[2][0] == "item":
            instead[row[2]] = ("item", goal, row[2][2])
    woven = {}
    for other in program:
        if other in (home, goal) or imports_one(source, other, instead):
            places = import_places(source, other)
            if other == home:
                places.append((start, end, []))
            rows = changed(source, other, places)
            if other == goal:
                rows.extend(plain(gap_behind(source, goal)))
                rows.extend(taken(source, home, start, end, 0))
            woven[other] = organised(other, rows, instead)
    return settled(source, woven, instead)


def gap_behind(source, module):
    """Return the newline that an item needs behind the text of a module, or "" if it needs none."""
    text = source.texts[module]
    places = source.places(module)
    if not text or text.endswith("\n"):
        return ""
    # The newline would belong to the chunk of this import, which goes away.
    if places and source.item(module, len(places) - 1)[0] == "import":
        return ""
    return "\n"


def imports_one(source, module, symbols):
    """Return True if a module imports one of the symbols, as each other module does that names them."""
    return any([row[2] in symbols for row in source.occurrences(module)])

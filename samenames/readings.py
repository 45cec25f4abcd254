"""Rules for the keeper: the chunks and items of a module, and what it declares and binds.

Each rule asks the keeper for what it needs and returns a value that can be
kept; `samenames.facts` tells which rule belongs to which key.
"""

from samenames.chunks import chunks
from samenames.errors import SyntaxProblem
from samenames.parser import read_item

# The sorts of what the items of these forms introduce, in the order of the marks.
SORTS = {"data": ("data",), "trait": ("trait", "method"), "def": ("def",)}


def cut_text(keeper, module):
    """Return the places of the chunks of a module."""
    return tuple(chunks(keeper.ask(("text", module))))


def chunk_text(keeper, module, chunk):
    """Return the text of a chunk."""
    start, end = keeper.ask(("cut", module))[chunk]
    return keeper.ask(("text", module))[start:end]


def read_chunk(keeper, module, chunk):
    """Return the item of a chunk, and the place of the failure if it is broken, otherwise None."""
    try:
        return (read_item(keeper.ask(("chunk", module, chunk))), None)
    except SyntaxProblem as problem:
        return (("broken",), (problem.start, problem.end))


def head_of(keeper, module, chunk):
    """Return the form of an item, the marks that introduce names, and the other module of an import.

    Most edits leave this as it is, so that less has to be computed behind it.
    """
    item = keeper.ask(("read", module, chunk))[0]
    if item[0] == "import":
        return ("import", item[2], item[1][0])
    if item[0] == "trait":
        return ("trait", (item[1], item[2]), "")
    if item[0] in SORTS:
        return (item[0], (item[1],), "")
    return (item[0], (), "")


def introduced(keeper, module):
    """Return what a module declares, the places of its doubled marks by chunk, and its void chunks."""
    held = {}
    declared = []
    doubled = []
    void = []
    for chunk in range(len(keeper.ask(("cut", module)))):
        form, marks, _ = keeper.ask(("head", module, chunk))
        again = []
        for name, start in marks:
            if name in held:
                again.append((chunk, start, start + len(name)))
            held[name] = True
        doubled.extend(again)
        if form in SORTS and again:
            void.append(chunk)
        elif form in SORTS:
            declared.extend([(mark[0], sort, chunk, mark[1]) for mark, sort in zip(marks, SORTS[form])])
    return (tuple(declared), tuple(doubled), tuple(void))


def is_other_module(keeper, module, other):
    """Return True if the other name is that of another module of the program."""
    return other != module and other in keeper.ask(("modules",))


def scope_rows(keeper, module):
    """Return the scope of a module as pairs of a name and a symbol."""
    declared, doubled, _ = keeper.ask(("intro", module))
    rows = [(row[0], ("item", module, row[0])) for row in declared]
    for chunk in range(len(keeper.ask(("cut", module)))):
        form, marks, other = keeper.ask(("head", module, chunk))
        if form != "import" or not is_other_module(keeper, module, other):
            continue
        for name, start in marks:
            again = (chunk, start, start + len(name)) in doubled
            if not again and keeper.ask(("found", other, name)) is not None:
                rows.append((name, ("item", other, name)))
    return tuple(rows)


def find_declared(keeper, module, name):
    """Return the sort, the chunk and the start of what a module declares by this name, or None."""
    for row in keeper.ask(("intro", module))[0]:
        if row[0] == name:
            return row[1:]
    return None


def sort_of_symbol(keeper, symbol):
    """Return the sort of the symbol of an item, or "" for every other symbol."""
    if symbol[0] != "item":
        return ""
    declared = keeper.ask(("found", symbol[1], symbol[2]))
    return "" if declared is None else declared[0]


def is_void(keeper, module, chunk):
    """Return True if the item of a chunk is void."""
    return chunk in keeper.ask(("intro", module))[2]

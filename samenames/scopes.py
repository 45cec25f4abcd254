"""What the modules of a program declare and bind."""

from samenames.facts import keeper_of
from samenames.readings import sort_of_symbol


def items(program, module):
    """Return the list of the items of a module."""
    keeper = keeper_of(program)
    return [keeper.ask(("read", module, chunk))[0] for chunk in range(len(keeper.ask(("cut", module))))]


def declared(program, module):
    """Return the list of (name, sort, chunk, start) for all that a module declares."""
    return list(keeper_of(program).ask(("intro", module))[0])


def scope(program, module):
    """Return the scope of a module, a dict from names to symbols."""
    return dict(keeper_of(program).ask(("scope", module)))


def sort_of(program, symbol):
    """Return the sort of the symbol of an item, or "" for every other tuple."""
    if len(symbol) != 3 or symbol[0] != "item" or symbol[1] not in program:
        return ""
    return sort_of_symbol(keeper_of(program), symbol)

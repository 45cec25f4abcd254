"""What the names in a chunk mean."""

from samenames.facts import keeper_of
from samenames.naming import locals_of


def occurrences(program, module, chunk):
    """Return the list of the occurrences of a chunk, those of fields behind a full stop left out."""
    return list(keeper_of(program).ask(("names", module, chunk))[0])


def name_problems(program, module, chunk):
    """Return the list of the problems of a chunk that rest on its names alone."""
    return list(keeper_of(program).ask(("names", module, chunk))[1])


def locals_at(program, module, chunk, offset):
    """Return the locals that a name at an offset of a chunk would mean as a value, a dict from names to symbols."""
    return locals_of(keeper_of(program), module, chunk, offset)

"""The kinds of what stands in a program."""

from samenames.answers import written_kind
from samenames.facts import keeper_of


def impls(program):
    """Return the dict from pairs of trait and target to pairs of module and chunk."""
    return dict(keeper_of(program).ask(("impls",)))


def result_kind(program, module, chunk):
    """Return the kind of the result of a def item that is not void."""
    keeper = keeper_of(program)
    keeper.ask(("below", module))
    return keeper.ask(("result", module, chunk))


def cyclic(program):
    """Return the ascending list of the bodies, as (module, chunk), that call each other in circles."""
    return list(keeper_of(program).ask(("cyclic",)))


def judged(program, module, chunk):
    """Return the kinds of the trees of a chunk, its occurrences of fields, and its problems of kinds."""
    keeper = keeper_of(program)
    keeper.ask(("below", module))
    kinds, fields, wrong, _ = keeper.ask(("judged", module, chunk))
    return (list(kinds), list(fields), list(wrong))


def written(program, kind):
    """Return the text of a kind."""
    return written_kind(keeper_of(program), kind)

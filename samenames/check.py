"""The problems and the occurrences of whole modules."""

from samenames.facts import keeper_of


def problems(program, module):
    """Return the list of the problems of a module."""
    return list(keeper_of(program).ask(("problems", module)))


def first_problem(program):
    """Return the module and the start of the first problem, or None if the program is sound."""
    keeper = keeper_of(program)
    for module in sorted(program):
        found = keeper.ask(("problems", module))
        if found:
            return (module, found[0][0])
    return None


def all_occurrences(program, module):
    """Return the list of all occurrences of a module, with places that count in the text."""
    return list(keeper_of(program).ask(("occurrences", module)))

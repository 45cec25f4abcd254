"""All that is known of a program, as values of the keys of a keeper.

The inputs are ("modules",), the ascending names, and ("text", module). Every
other key begins with a word, and goes on with a module and a chunk or a name.
"""

from samenames.answers import kinds_of, occurrences_of, problems_of
from samenames.graph import all_cyclic, in_circle, needs_of, results_below, steps_of
from samenames.inference import judge_chunk
from samenames.keeper import Keeper
from samenames.kinds import all_impls, impl_of, result_of, role_of, signature_of
from samenames.naming import names_of
from samenames.readings import chunk_text, cut_text, find_declared, head_of, introduced, read_chunk, scope_rows


def of_program(keeper, word):
    """Compute what is told of the whole program."""
    if word == "impls":
        return all_impls(keeper)
    return all_cyclic(keeper)


def of_module(keeper, word, module):
    """Compute what is told of a module."""
    match word:
        case "text":
            # What was kept of a module that is not there any more may be checked once more.
            return ""
        case "cut":
            return cut_text(keeper, module)
        case "intro":
            return introduced(keeper, module)
        case "scope":
            return scope_rows(keeper, module)
        case "below":
            return results_below(keeper, module)
        case "problems":
            return problems_of(keeper, module)
        case "kinds":
            return kinds_of(keeper, module)
        case _:
            return occurrences_of(keeper, module)


def of_part(keeper, word, module, part):
    """Compute what is told of a chunk, or of a name, of a module."""
    match word:
        case "chunk":
            return chunk_text(keeper, module, part)
        case "read":
            return read_chunk(keeper, module, part)
        case "head":
            return head_of(keeper, module, part)
        case "found":
            return find_declared(keeper, module, part)
        case "names":
            return names_of(keeper, module, part)
        case "signature":
            return signature_of(keeper, module, part)
        case "impl":
            return impl_of(keeper, module, part)
        case "role":
            return role_of(keeper, module, part)
        case "steps":
            return steps_of(keeper, module, part)
        case "needs":
            return needs_of(keeper, module, part)
        case "circles":
            return in_circle(keeper, module, part)
        case "result":
            return result_of(keeper, module, part)
        case _:
            return judge_chunk(keeper, module, part)


def compute(keeper, key):
    """Compute the value of a key that is no input."""
    if len(key) == 1:
        return of_program(keeper, key[0])
    if len(key) == 2:
        return of_module(keeper, key[0], key[1])
    return of_part(keeper, key[0], key[1], key[2])


def keeper_of(program):
    """Return a new keeper for a program."""
    keeper = Keeper(compute)
    keeper.put(("modules",), tuple(sorted(program)))
    for module in program:
        keeper.put(("text", module), program[module])
    return keeper

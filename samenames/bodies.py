"""The bodies of a module, and what else of an item is found by looking at its tokens."""

from samenames.tokens import tokens


def bodies_of(keeper, module):
    """Return (chunk, start of the chunk, item) for the bodies of a module, in order."""
    found = []
    for chunk, place in enumerate(keeper.ask(("cut", module))):
        if keeper.ask(("role", module, chunk)) in ("def", "impl"):
            found.append((chunk, place[0], keeper.ask(("read", module, chunk))[0]))
    return found


def fields_end(keeper, module, chunk):
    """Return the offset in the chunk of a def item behind the bracket that ends its fields."""
    text = keeper.ask(("chunk", module, chunk))
    # No round bracket stands before those of the fields; only tokens count, since comments may hold brackets.
    ends = [end for _, start, end in tokens(text) if text[start:end] == ")"]
    return ends[0]

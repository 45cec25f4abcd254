"""Rules for the keeper: which bodies call which."""

from samenames.kinds import meanings
from samenames.readings import sort_of_symbol
from samenames.trees import nodes


def called(keeper, module, chunk):
    """Return the symbols of the def items and methods that the calls of a body mean, each once."""
    if keeper.ask(("role", module, chunk)) not in ("def", "impl"):
        return []
    symbols = meanings(keeper, module, chunk)
    found = {}
    for tree in nodes(keeper.ask(("read", module, chunk))[0][-1]):
        symbol = symbols.get(tree[1]) if tree[0] == "call" else None
        if symbol is not None and sort_of_symbol(keeper, symbol) in ("def", "method"):
            found[symbol] = True
    return list(found)


def steps_of(keeper, module, chunk):
    """Return the bodies that a body calls, each once."""
    found = {}
    for symbol in called(keeper, module, chunk):
        sort, number, _ = keeper.ask(("found", symbol[1], symbol[2]))
        if sort == "def":
            found[(symbol[1], number)] = True
            continue
        trait = ("item", symbol[1], keeper.ask(("head", symbol[1], number))[1][0][0])
        for pair, body in keeper.ask(("impls",)):
            if pair[0] == trait:
                found[body] = True
    return tuple(found)


def needs_of(keeper, module, chunk):
    """Return the def items, by module and chunk, whose inferred results the kinds of a body rest on."""
    found = []
    for symbol in called(keeper, module, chunk):
        sort, number, _ = keeper.ask(("found", symbol[1], symbol[2]))
        if sort == "def" and keeper.ask(("signature", symbol[1], number))[2] is None:
            found.append((symbol[1], number))
    return tuple(found)


def finished(starts, after):
    """Return all that the starts lead to, each behind those that it leads to itself, but for circles."""
    found = []
    seen = {}
    for start in starts:
        path = []
        if start not in seen:
            seen[start] = True
            path.append((start, list(after(start))))
        while path:
            here, waiting = path[-1]
            if not waiting:
                found.append(here)
                path.pop()
                continue
            step = waiting.pop(0)
            if step not in seen:
                seen[step] = True
                path.append((step, list(after(step))))
    return found


def circles_among(graph):
    """Return those keys of a dict of lists from which steps lead back to themselves."""
    back = {body: [] for body in graph}
    for body in graph:
        for step in graph[body]:
            back[step].append(body)
    group = {}
    # Against the steps, the last one that finished reaches only those that it can reach with them, too.
    for body in finished(list(graph), lambda row: graph[row])[::-1]:
        if body in group:
            continue
        members = finished([body], lambda row: [other for other in back[row] if other not in group])
        for member in members:
            group[member] = members
    return [body for body in graph if len(group[body]) > 1 or body in graph[body]]


def all_cyclic(keeper):
    """Return the bodies from which steps lead back to themselves, in ascending order."""
    graph = {}
    for module in keeper.ask(("modules",)):
        for chunk in range(len(keeper.ask(("cut", module)))):
            if keeper.ask(("role", module, chunk)) in ("def", "impl"):
                graph[(module, chunk)] = keeper.ask(("steps", module, chunk))
    return tuple(sorted(circles_among(graph)))


def in_circle(keeper, module, chunk):
    """Return True if steps lead from a body back to itself."""
    return (module, chunk) in keeper.ask(("cyclic",))


def results_below(keeper, module):
    """Ask for all results that the bodies of a module rest on, so that no ask behind it goes deep."""
    bodies = [(module, chunk) for chunk in range(len(keeper.ask(("cut", module))))]
    for body in finished(bodies, lambda row: keeper.ask(("needs", row[0], row[1]))):
        if keeper.ask(("role", body[0], body[1])) == "def":
            keeper.ask(("result", body[0], body[1]))
    return 0

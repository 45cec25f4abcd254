"""Rules for the keeper: what is told of whole modules, with places that count in the text."""

from samenames.tokens import word_end


def problems_of(keeper, module):
    """Return the problems of a module in ascending order, each once."""
    keeper.ask(("below", module))
    found = []
    for chunk, place in enumerate(keeper.ask(("cut", module))):
        rows = keeper.ask(("names", module, chunk))[1] + keeper.ask(("judged", module, chunk))[2]
        found.extend([(place[0] + start, place[0] + end, code) for start, end, code in rows])
    return tuple(sorted(set(found)))


def occurrences_of(keeper, module):
    """Return the occurrences of a module in ascending order, those of fields too."""
    keeper.ask(("below", module))
    found = []
    for chunk, place in enumerate(keeper.ask(("cut", module))):
        rows = keeper.ask(("names", module, chunk))[0] + keeper.ask(("judged", module, chunk))[1]
        rows = sorted(rows, key=lambda row: row[0])
        found.extend([(place[0] + start, place[0] + end, symbol, declares) for start, end, symbol, declares in rows])
    return tuple(found)


def kinds_of(keeper, module):
    """Return the kinds of the trees of all bodies of a module."""
    keeper.ask(("below", module))
    found = []
    for chunk, place in enumerate(keeper.ask(("cut", module))):
        rows = keeper.ask(("judged", module, chunk))[0]
        found.extend([(place[0] + start, place[0] + end, kind) for start, end, kind in rows])
    return tuple(found)


def written_kind(keeper, kind):
    """Return the text of a kind."""
    if kind[0] == "unknown":
        return "?"
    if kind[0] == "data":
        return kind[2]
    if kind[0] == "bound":
        text = keeper.ask(("chunk", kind[1], kind[2]))
        return text[kind[3]:word_end(text, kind[3])]
    return kind[0]

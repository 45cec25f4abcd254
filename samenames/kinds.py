"""Rules for the keeper: the kinds that items tell, and which impl belongs to which kind."""

from samenames.readings import is_void, sort_of_symbol

INT = ("Int",)
BOOL = ("Bool",)
UNKNOWN = ("unknown",)
# Where the fields stand in an item.
FIELDS = {"data": 2, "trait": 4, "def": 3}


def kind_of(keeper, symbol):
    """Return the kind that the name of a kind stands for if it means this symbol, or None for nothing."""
    if symbol is None:
        return UNKNOWN
    if symbol[0] == "builtin":
        return (symbol[1],)
    if symbol[0] == "local":
        return ("bound",) + symbol[1:]
    if sort_of_symbol(keeper, symbol) == "data":
        return ("data",) + symbol[1:]
    return UNKNOWN


def target_of(kind):
    """Return the symbol of a data kind or a built-in one."""
    return ("item",) + kind[1:] if kind[0] == "data" else ("builtin", kind[0])


def meanings(keeper, module, chunk):
    """Return what the names of a chunk mean, by their starts."""
    return {row[0]: row[2] for row in keeper.ask(("names", module, chunk))[0]}


def signature_of(keeper, module, chunk):
    """Return bounds, fields and result of a data or def item, or of the method of a trait item.

    A bound is its kind and the symbol of its trait or None, a field is its
    name, start and kind; a result that is not told is None. The first
    parameter of a method is a bound with the trait, and has its kind.
    """
    item = keeper.ask(("read", module, chunk))[0]
    symbols = meanings(keeper, module, chunk)
    form = item[0]
    rows = [(mark[0], mark[1], kind_of(keeper, symbols.get(kind[1]))) for mark, kind in item[FIELDS[form]]]
    if form == "data":
        return ((), tuple(rows), ("data", module, item[1][0]))
    if form == "trait":
        first = ("bound", module, chunk, item[3][1])
        rows.insert(0, (item[3][0], item[3][1], first))
        bounds = [(first, ("item", module, item[1][0]))]
    else:
        bounds = [(("bound", module, chunk, mark[1]), bound_trait(keeper, symbols, trait)) for mark, trait in item[2]]
    told = item[5] if form == "trait" else item[4]
    result = None if told is None else kind_of(keeper, symbols.get(told[1]))
    return (tuple(bounds), tuple(rows), result)


def bound_trait(keeper, symbols, mark):
    """Return the symbol of the trait at a mark, or None if there is none."""
    symbol = None if mark is None else symbols.get(mark[1])
    if symbol is None or sort_of_symbol(keeper, symbol) != "trait":
        return None
    return symbol


def impl_of(keeper, module, chunk):
    """Return the pair of trait and target of a good impl item, or None for every other item."""
    item = keeper.ask(("read", module, chunk))[0]
    if item[0] != "impl":
        return None
    symbols = meanings(keeper, module, chunk)
    trait = bound_trait(keeper, symbols, item[1])
    target = symbols.get(item[2][1])
    if trait is None or kind_of(keeper, target) == UNKNOWN:
        return None
    return (trait, target)


def all_impls(keeper):
    """Return for each trait and target that have an impl the pair of them and that of module and chunk."""
    found = {}
    for module in keeper.ask(("modules",)):
        for chunk in range(len(keeper.ask(("cut", module)))):
            pair = keeper.ask(("impl", module, chunk))
            if pair is not None:
                found.setdefault(pair, (module, chunk))
    return tuple(found.items())


def role_of(keeper, module, chunk):
    """Return "def" or "impl" if the chunk has a body, "double" for an impl that is not the first, otherwise ""."""
    form = keeper.ask(("read", module, chunk))[0][0]
    if form == "def" and not is_void(keeper, module, chunk):
        return "def"
    pair = keeper.ask(("impl", module, chunk))
    if pair is None:
        return ""
    return "impl" if dict(keeper.ask(("impls",)))[pair] == (module, chunk) else "double"


def result_of(keeper, module, chunk):
    """Return the kind of the result of a def item that is not void."""
    told = keeper.ask(("signature", module, chunk))[2]
    if told is not None:
        return told
    if keeper.ask(("circles", module, chunk)):
        return UNKNOWN
    return keeper.ask(("judged", module, chunk))[3]

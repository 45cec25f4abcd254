"""New texts of a change, woven from rows, and whether their names mean what they should.

A row is (text, symbol, group, declares). A row of a name tells the symbol that
it has in the old program; the symbol of all other rows is None. Rows that were
copied together have a group of their own, all others the group 0. A row that
declares stands for the mark of its symbol.
"""

from samenames.chunks import chunks
from samenames.errors import Refused
from samenames.facts import keeper_of
from samenames.texts import LONGEST
from samenames.tokens import tokens


def plain(text):
    """Return the rows of a text without names."""
    return [(text, None, 0, False)]


def taken(source, module, start, end, group):
    """Return the rows of a part of an old text."""
    text = source.texts[module]
    rows = []
    at = start
    for first, behind, symbol, declares in source.occurrences(module):
        if start <= first and behind <= end:
            rows.extend(plain(text[at:first]))
            rows.append((text[first:behind], symbol, group, declares))
            at = behind
    rows.extend(plain(text[at:end]))
    return rows


def spliced(source, module, start, end, changes):
    """Return the rows of a part of an old text in which other rows stand at some places.

    The changes are (start, end, rows); their places lie in the part and do not overlap.
    """
    rows = []
    at = start
    for first, behind, put in sorted(changes, key=lambda change: (change[0], change[1])):
        rows.extend(taken(source, module, at, first, 0))
        rows.extend(put)
        at = behind
    rows.extend(taken(source, module, at, end, 0))
    return rows


def changed(source, module, changes):
    """Return the rows of a whole old text in which other rows stand at some places."""
    return spliced(source, module, 0, len(source.texts[module]), changes)


def import_places(source, module):
    """Return changes that take the imports of a module away."""
    found = []
    for chunk, place in enumerate(source.places(module)):
        if source.item(module, chunk)[0] == "import":
            found.append((place[0], place[1], []))
    return found


def organised(module, rows, instead):
    """Return rows of a text without imports, with imports in front for the items that they mean."""
    needed = {}
    for _, symbol, _, _ in rows:
        meant = instead.get(symbol, symbol)
        if meant is not None and meant[0] == "item" and meant[1] != module:
            names = needed.setdefault(meant[1], {})
            names[meant[2]] = meant
    lines = []
    for other in sorted(needed):
        lines.extend(plain("import "))
        lines.append((other, ("module", other), 0, False))
        between = ": "
        for name in sorted(needed[other]):
            lines.extend(plain(between))
            lines.append((name, needed[other][name], 0, False))
            between = ", "
        lines.extend(plain("\n"))
    return lines + rows


class Weave:
    """The new program of a change, and what its names are intended to mean."""

    def __init__(self, source, woven, instead):
        self.instead = instead
        self.texts = {}
        # From (module, start) to (end, old symbol, group), for each name that was taken over or is new.
        self.spots = {}
        # From (old symbol, group) to (module, start), for the marks of locals.
        self.marks = {}
        for module in source.texts:
            whole = len(source.texts[module])
            self.put_rows(module, woven[module] if module in woven else taken(source, module, 0, whole, 0))

    def put_rows(self, module, rows):
        """Make the text of a module from rows."""
        at = 0
        for text, symbol, group, declares in rows:
            if symbol is not None:
                self.spots[(module, at)] = (at + len(text), symbol, group)
                if declares and symbol[0] == "local":
                    self.marks[(symbol, group)] = (module, at)
            at += len(text)
        self.texts[module] = "".join([row[0] for row in rows])

    def intended(self, symbol, group, meanings):
        """Return the new symbol that is intended for an old one, or None if there is none any more."""
        if symbol[0] == "local":
            mark = self.marks.get((symbol, group), self.marks.get((symbol, 0)))
            return meanings.get(mark)
        if symbol in self.instead:
            return self.instead[symbol]
        if symbol[0] == "field":
            return ("field",) + self.instead.get(("item",) + symbol[1:3], symbol)[1:3] + symbol[3:]
        return symbol

    def clashes(self):
        """Return the pairs of module and start of all problems, and of all names that do not mean what they should."""
        keeper = keeper_of(self.texts)
        meanings = {}
        for module in self.texts:
            for row in keeper.ask(("occurrences", module)):
                meanings[(module, row[0])] = row[2]
        found = []
        for module in self.texts:
            for start, end in names_in_chunks(self.texts[module]):
                behind, symbol, group = self.spots.get((module, start), (None, None, 0))
                meant = meanings.get((module, start))
                if behind != end or meant is None or meant != self.intended(symbol, group, meanings):
                    found.append((module, start))
            found.extend([(module, row[0]) for row in keeper.ask(("problems", module))])
        return found


def names_in_chunks(text):
    """Return the places of the tokens of sort "name" that stand in chunks."""
    places = chunks(text)
    if not places:
        return []
    return [(start, end) for sort, start, end in tokens(text) if sort == "name" and start >= places[0][0]]


def settled(source, woven, instead):
    """Return the new program that is made of the rows of some modules, or raise Refused.

    The dict `instead` has the new symbols of items and fields that were moved or renamed.
    """
    weave = Weave(source, woven, instead)
    for module in weave.texts:
        if len(weave.texts[module]) > LONGEST:
            raise Refused("long", module, 0)
    clashes = weave.clashes()
    if clashes:
        module, start = min(clashes)
        raise Refused("clash", module, start)
    return weave.texts

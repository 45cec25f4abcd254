"""The program that a change begins with, and what stands in it."""

from samenames.errors import Refused
from samenames.facts import keeper_of
from samenames.readings import sort_of_symbol
from samenames.trees import nodes


class Source:
    """A sound program, with a keeper of its own. Places count in the texts."""

    def __init__(self, program):
        self.texts = {module: program[module] for module in sorted(program)}
        self.keeper = keeper_of(program)
        for module in self.texts:
            found = self.keeper.ask(("problems", module))
            if found:
                raise Refused("unsound", module, found[0][0])

    def occurrences(self, module):
        """Return the occurrences of a module."""
        return self.keeper.ask(("occurrences", module))

    def occurrence_at(self, module, offset):
        """Return the occurrence at an offset, or None."""
        for row in self.occurrences(module):
            if row[0] <= offset < row[1]:
                return row
        return None

    def symbol_at(self, module, offset):
        """Return the symbol at an offset, or None."""
        row = self.occurrence_at(module, offset)
        return None if row is None else row[2]

    def meanings(self, module):
        """Return what the names of a module mean, by their starts."""
        return {row[0]: row[2] for row in self.occurrences(module)}

    def symbol_sort(self, symbol):
        """Return the sort of the symbol of an item, or ""."""
        return sort_of_symbol(self.keeper, symbol)

    def places(self, module):
        """Return the places of the chunks of a module."""
        return self.keeper.ask(("cut", module))

    def item(self, module, chunk):
        """Return the item of a chunk."""
        return self.keeper.ask(("read", module, chunk))[0]

    def chunk_of(self, symbol):
        """Return the number of the chunk that declares the symbol of an item."""
        return self.keeper.ask(("found", symbol[1], symbol[2]))[1]

    def bodies(self, module):
        """Return (chunk, start of the chunk, value) for the bodies of a module."""
        found = []
        for chunk, place in enumerate(self.places(module)):
            item = self.item(module, chunk)
            if item[0] in ("def", "impl"):
                found.append((chunk, place[0], item[-1]))
        return found

    def calls_of(self, symbol):
        """Return (module, chunk, start of the chunk, tree) for all calls of a symbol."""
        found = []
        for module in self.texts:
            meanings = self.meanings(module)
            for chunk, shift, value in self.bodies(module):
                for tree in nodes(value):
                    if tree[0] == "call" and meanings.get(shift + tree[1]) == symbol:
                        found.append((module, chunk, shift, tree))
        return found

"""The server: it holds the texts of a program, takes edits and changes, and answers questions."""

from samenames.answers import written_kind
from samenames.changes import drop_parameter, extract, inline, rename, reorder
from samenames.errors import FileExists, InvalidEdit, NothingToUndo, UnknownFile
from samenames.facts import compute
from samenames.keeper import Keeper
from samenames.moves import move, organise
from samenames.naming import locals_of
from samenames.readings import sort_of_symbol
from samenames.texts import apply_edit, is_text
from samenames.tokens import is_name

MOST_MODULES = 6
# The sorts of what can be written as a value or be called.
WRITABLE = ("data", "method", "def")


class Server:
    """Holds a program. What it keeps of its answers is kept by a keeper."""

    def __init__(self, program):
        if len(program) > MOST_MODULES:
            raise InvalidEdit("there are too many modules")
        for module in program:
            if not is_name(module) or not is_text(program[module]):
                raise InvalidEdit("a module has no right name or no right text")
        self._texts = {module: program[module] for module in program}
        self._keeper = Keeper(compute)
        # Steps that can be taken back, and those that can be done again: tuples of (module, before, after).
        self._done = []
        self._undone = []
        for module in self._texts:
            self._keeper.put(("text", module), self._texts[module])
        self._put_modules()

    def _put_modules(self):
        """Tell the keeper which modules there are, and forget all steps."""
        self._keeper.put(("modules",), tuple(sorted(self._texts)))
        self._done = []
        self._undone = []

    def _put_text(self, module, text):
        """Give a module a text."""
        self._texts[module] = text
        self._keeper.put(("text", module), text)

    def _check(self, module):
        """Raise UnknownFile if a module is not there."""
        if module not in self._texts:
            raise UnknownFile("there is no such module")

    def modules(self):
        """Return the ascending list of the modules."""
        return sorted(self._texts)

    def text(self, module):
        """Return the text of a module."""
        self._check(module)
        return self._texts[module]

    def program(self):
        """Return a dict with all texts."""
        return {module: self._texts[module] for module in sorted(self._texts)}

    def open_file(self, module, text):
        """Add a module. Raises FileExists and InvalidEdit."""
        if module in self._texts:
            raise FileExists("the module is there already")
        if not is_name(module) or not is_text(text) or len(self._texts) == MOST_MODULES:
            raise InvalidEdit("the module cannot be added")
        self._put_text(module, text)
        self._put_modules()

    def close_file(self, module):
        """Remove a module. Raises UnknownFile."""
        self._check(module)
        del self._texts[module]
        self._keeper.drop(("text", module))
        self._put_modules()

    def edit(self, module, edit):
        """Change a text. Raises UnknownFile and InvalidEdit."""
        self._check(module)
        text = apply_edit(self._texts[module], edit)
        self._step([(module, self._texts[module], text)])

    def _step(self, rows):
        """Do a step that is not yet known."""
        for module, _, after in rows:
            self._put_text(module, after)
        self._done.append(tuple(rows))
        self._undone = []

    def undo(self):
        """Take the last step back. Raises NothingToUndo."""
        if not self._done:
            raise NothingToUndo("no step can be taken back")
        rows = self._done.pop()
        for module, before, _ in rows:
            self._put_text(module, before)
        self._undone.append(rows)

    def redo(self):
        """Do the step again that was taken back last. Raises NothingToUndo."""
        if not self._undone:
            raise NothingToUndo("no step can be done again")
        rows = self._undone.pop()
        for module, _, after in rows:
            self._put_text(module, after)
        self._done.append(rows)

    def problems(self, module):
        """Return the list of the problems of a module."""
        self._check(module)
        return list(self._keeper.ask(("problems", module)))

    def outline(self, module):
        """Return the list of (name, sort, start) of what a module declares."""
        self._check(module)
        places = self._keeper.ask(("cut", module))
        rows = self._keeper.ask(("intro", module))[0]
        return [(name, sort, places[chunk][0] + start) for name, sort, chunk, start in rows]

    def symbol_at(self, module, offset):
        """Return the symbol at an offset, or None."""
        self._check(module)
        for start, end, symbol, _ in self._keeper.ask(("occurrences", module)):
            if start <= offset < end:
                return symbol
        return None

    def definition(self, module, offset):
        """Return the place (module, start, end) that declares the symbol at an offset, or None."""
        symbol = self.symbol_at(module, offset)
        if symbol is None or symbol[0] in ("builtin", "module"):
            return None
        for start, end, other, declares in self._keeper.ask(("occurrences", symbol[1])):
            if declares and other == symbol:
                return (symbol[1], start, end)
        return None

    def uses(self, module, offset):
        """Return the list of the places (module, start, end) of the symbol at an offset."""
        symbol = self.symbol_at(module, offset)
        found = []
        if symbol is None:
            return found
        for name in sorted(self._texts):
            rows = self._keeper.ask(("occurrences", name))
            found.extend([(name, start, end) for start, end, other, _ in rows if other == symbol])
        return found

    def kind_at(self, module, offset):
        """Return the text of the kind at an offset, or "" if there is none."""
        self._check(module)
        around = [row[2] for row in self._keeper.ask(("kinds", module)) if row[0] <= offset <= row[1]]
        return written_kind(self._keeper, around[-1]) if around else ""

    def completions(self, module, offset):
        """Return the ascending list of the names that could be written at an offset as a value or be called."""
        self._check(module)
        names = {}
        places = self._keeper.ask(("cut", module))
        for chunk, place in enumerate(places):
            last = chunk == len(places) - 1 and offset == place[1]
            if place[0] <= offset < place[1] or last:
                names.update(locals_of(self._keeper, module, chunk, offset - place[0]))
        for name, symbol in self._keeper.ask(("scope", module)):
            if sort_of_symbol(self._keeper, symbol) in WRITABLE:
                names[name] = symbol
        return sorted(names)

    def limit(self, count):
        """Limit the computations for questions from now on to a number, or end the limit."""
        self._keeper.limit(count)

    def forget(self):
        """Drop all kept values."""
        self._keeper.forget_all()

    def computations(self):
        """Return how many values were computed to the end since the last call."""
        return len(self._keeper.computed())

    def _change(self, program):
        """Take the program that a change made as a step."""
        rows = [(module, self._texts[module], program[module]) for module in sorted(program)]
        self._step([row for row in rows if row[1] != row[2]])

    def rename(self, module, offset, new):
        """Give the symbol at an offset another name. Raises UnknownFile and Refused, as all changes do."""
        self._check(module)
        self._change(rename(self._texts, module, offset, new))

    def move(self, module, offset, goal):
        """Move the item at an offset to another module."""
        self._check(module)
        self._change(move(self._texts, module, offset, goal))

    def extract(self, module, start, end, name):
        """Make a def item of the value at a place."""
        self._check(module)
        self._change(extract(self._texts, module, start, end, name))

    def inline(self, module, offset):
        """Put a value in place of a local or a call."""
        self._check(module)
        self._change(inline(self._texts, module, offset))

    def reorder(self, module, offset, order):
        """Give the fields of a def item another order."""
        self._check(module)
        self._change(reorder(self._texts, module, offset, order))

    def drop_parameter(self, module, offset, index):
        """Remove a field of a def item."""
        self._check(module)
        self._change(drop_parameter(self._texts, module, offset, index))

    def organise(self, module):
        """Organise the imports of a module."""
        self._check(module)
        self._change(organise(self._texts, module))

"""The points 50 to 60, 64 and 65 once more, for the tests: each change is made character by character.

Each character of a new text knows the old token that it was taken from, or the new one that it belongs to, so that
what the tokens of the new texts are intended to mean is read off their characters.
"""

from samenames.chunks import chunks
from samenames.printer import tidied
from samenames.tokens import is_name, tokens
from samenames.trees import nodes, tree_at
from tests.reference import Reference, read


class Refusal(Exception):
    pass


class Token:
    """A name of a new text: the old symbol that it stands for, and with what it was copied."""

    def __init__(self, symbol, text, declares=False, group=0):
        self.symbol, self.text, self.declares, self.group = symbol, text, declares, group

    def cells(self):
        return [(sign, self, number) for number, sign in enumerate(self.text)]


def plain(text):
    return [(sign, None, 0) for sign in text]


def text_of(cells):
    return "".join(cell[0] for cell in cells)


class Remaking:
    def __init__(self, program):
        self.program = program
        self.old = Reference(program)
        for module in sorted(program):
            found = self.old.problems(module)
            if found:
                raise Refusal("unsound", module, found[0][0])
        self.rows = {module: self.old.occurrences(module) for module in program}
        self.names = {}

    # Old texts

    def copied(self, module, start, end, group=0):
        """The cells of a part of an old text; `names` tells the new names of symbols."""
        text, found, at = self.program[module], [], start
        for first, behind, symbol, declares in self.rows[module]:
            if first >= start and behind <= end:
                found += plain(text[at:first])
                found += Token(symbol, self.names.get(symbol, text[first:behind]), declares, group).cells()
                at = behind
        return found + plain(text[at:end])

    def whole(self, module):
        return self.copied(module, 0, len(self.program[module]))

    def replaced(self, module, changes):
        """The cells of a text in which some places, in order, have other cells."""
        found, at = [], 0
        for start, end, cells in changes:
            found += self.copied(module, at, start) + cells
            at = end
        return found + self.copied(module, at, len(self.program[module]))

    def symbol_at(self, module, offset):
        found = [row for row in self.rows[module] if row[0] <= offset < row[1]]
        return found[0][2] if found else None

    def place_of(self, symbol):
        """The chunk of an item, and its place in the text."""
        chunk = self.old.declared[symbol[1]][symbol[2]][1]
        return chunk, chunks(self.program[symbol[1]])[chunk]

    def bodies(self, module):
        for chunk, (start, end) in enumerate(chunks(self.program[module])):
            item = self.old.items[module, chunk]
            if item[0] in ("def", "impl"):
                yield chunk, start, item[-1]

    def calls(self, symbol):
        """(module, start of the chunk, tree) of each call of an item."""
        for module in sorted(self.program):
            for chunk, shift, value in self.bodies(module):
                for tree in nodes(value):
                    if tree[0] == "call" and self.symbol_at(module, shift + tree[1]) == symbol:
                        yield module, shift, tree

    # New texts

    def organised(self, module, cells, instead):
        """The cells of a text with other imports; `instead` has the new symbols of items."""
        text, kept, at = text_of(cells), [], 0
        for start, end in chunks(text):
            kept += cells[at:start]
            at = start
            if read(text[start:end])[0][0] == "import":
                at = end
        kept += cells[at:]
        needed = {}
        for _, token, _ in kept:
            symbol = token and instead.get(token.symbol, token.symbol)
            if symbol and symbol[0] == "item" and symbol[1] != module:
                needed.setdefault(symbol[1], set()).add(symbol[2])
        found = []
        for other in sorted(needed):
            found += plain("import ") + Token(("module", other), other).cells() + plain(": ")
            for number, name in enumerate(sorted(needed[other])):
                found += plain(", " if number else "") + Token(("new", other, name), name).cells()
            found += plain("\n")
        return found + kept

    def settle(self, changed, instead):
        """The new program, or a refusal."""
        cells = {module: changed.get(module, None) for module in sorted(self.program)}
        cells = {module: self.whole(module) if found is None else found for module, found in cells.items()}
        texts = {module: text_of(found) for module, found in cells.items()}
        for module in texts:
            if len(texts[module]) > 4000:
                raise Refusal("long", module, 0)
        new = Reference(texts)
        means, marks, wrong = {}, {}, []
        for module in texts:
            wrong += [(module, problem[0]) for problem in new.problems(module)]
            for start, _, symbol, _ in new.occurrences(module):
                means[module, start] = symbol
            for at, (_, token, number) in enumerate(cells[module]):
                if token and number == 0 and token.declares and token.symbol[0] == "local":
                    marks[token.symbol, token.group] = (module, at)
        for module, text in texts.items():
            for start, end in chunks(text):
                for sort, first, behind in tokens(text[start:end]):
                    if sort == "name":
                        part = cells[module][start + first:start + behind]
                        if not self.right(part, means.get((module, start + first)), means, marks, instead):
                            wrong.append((module, start + first))
        if wrong:
            raise Refusal("clash", *min(wrong))
        return texts

    def right(self, part, meaning, means, marks, instead):
        """Whether the cells are one token that means what it is intended to mean."""
        token = part[0][1]
        if token is None or meaning is None or part != token.cells():
            return False
        symbol = token.symbol
        if symbol[0] == "new":
            return meaning == ("item",) + symbol[1:]
        if symbol[0] == "local":
            mark = marks.get((symbol, token.group)) or marks.get((symbol, 0))
            return mark is not None and meaning == means.get(mark)
        if symbol[0] == "field":
            owner = instead.get(("item",) + symbol[1:3], ("item",) + symbol[1:3])
            return meaning == ("field",) + owner[1:] + (self.names.get(symbol, symbol[3]),)
        return meaning == instead.get(symbol, symbol)

    # Changes

    def rename(self, module, offset, new):
        symbol = self.symbol_at(module, offset)
        if symbol is None or symbol[0] in ("builtin", "module"):
            raise Refusal("symbol", module, offset)
        if not is_name(new):
            raise Refusal("name", module, offset)
        self.names = {symbol: new}
        return self.settle({}, {symbol: symbol[:2] + (new,)} if symbol[0] == "item" else {})

    def organise(self, module):
        return self.settle({module: self.organised(module, self.whole(module), {})}, {})

    def move(self, module, offset, goal):
        symbol = self.symbol_at(module, offset)
        if symbol is None or symbol[0] != "item":
            raise Refusal("symbol", module, offset)
        home = symbol[1]
        if goal not in self.program or goal == home:
            raise Refusal("goal", module, offset)
        chunk, (start, end) = self.place_of(symbol)
        item = self.old.items[home, chunk]
        names = [item[1][0]] + ([item[2][0]] if item[0] == "trait" else [])
        instead = {("item", home, name): ("item", goal, name) for name in names}
        cells = {name: self.whole(name) for name in self.program}
        cells[home] = self.replaced(home, [(start, end, [])])
        gap = "\n" if self.program[goal] and self.program[goal][-1] != "\n" else ""
        cells[goal] = cells[goal] + plain(gap) + self.copied(home, start, end)
        for other in self.program:
            imported = [(item[1][0], mark[0]) for (place, _), item in self.old.items.items()
                        if place == other and item[0] == "import" for mark in item[2]]
            if other in (home, goal) or any((home, name) in imported for name in names):
                cells[other] = self.organised(other, cells[other], instead)
        return self.settle(cells, instead)

    def extract(self, module, start, end, name):
        found = None
        for chunk, shift, value in self.bodies(module):
            if tree_at(value, start - shift, end - shift):
                found = chunk, shift, tree_at(value, start - shift, end - shift)
        if found is None:
            raise Refusal("place", module, start)
        if not is_name(name):
            raise Refusal("name", module, start)
        chunk, shift, tree = found
        inside = [row for row in self.rows[module] if start <= row[0] < end and row[2][0] == "local"]
        own = [row[2] for row in inside if row[3]]
        free = {}
        for row in inside:
            if row[2] not in own:
                free.setdefault(row[2], row)
        kinds = {row[:2]: row[2] for row in self.old.judged(module, chunk)[0]}
        told = [kinds[row[0] - shift, row[1] - shift] for row in free.values()] + [kinds[tree[1], tree[2]]]
        for kind in told:
            if kind[0] == "data" and self.old.scope(module).get(kind[2]) != ("item",) + kind[1:]:
                raise Refusal("kind", module, start)
        text = self.program[module]

        def local(row, declares, group):
            return Token(row[2], text[row[0]:row[1]], declares, group).cells()

        def kind_cells(kind):
            if kind[0] == "bound":
                _, begin, end = [token for token in tokens(text) if token[1] == shift + kind[3]][0]
                return Token(("local",) + kind[1:], text[begin:end], False, 1).cells()
            symbol = ("item",) + kind[1:] if kind[0] == "data" else ("builtin", kind[0])
            return Token(symbol, kind[-1], False, 1).cells()

        def listed(rows):
            found = []
            for number, row in enumerate(rows):
                found += plain(", " if number else "") + row
            return found
        call = Token(("new", module, name), name).cells() + plain("(")
        call += listed([local(row, False, 0) for row in free.values()]) + plain(")")
        added = plain("" if text.endswith("\n") else "\n") + plain("def ") + Token(("new", module, name), name).cells()
        item = self.old.items[module, chunk]
        bounds = []
        for mark, trait in item[2] if item[0] == "def" else ():
            if ("bound", module, chunk, mark[1]) in told:
                row = Token(("local", module, chunk, mark[1]), mark[0], True, 1).cells()
                if trait:
                    row += plain(": ") + Token(self.symbol_at(module, shift + trait[1]), trait[0]).cells()
                bounds.append(row)
        if bounds:
            added += plain("[") + listed(bounds) + plain("]")
        fields = [local(row, True, 1) + plain(": ") + kind_cells(kind) for row, kind in zip(free.values(), told)]
        added += plain("(") + listed(fields) + plain("): ") + kind_cells(told[-1]) + plain(" = ")
        added += self.copied(module, start, end, 1) + plain("\n")
        return self.settle({module: self.replaced(module, [(start, end, call)]) + added}, {})

    def safe(self, module, shift, tree):
        for node in nodes(tree):
            if node[0] == "loop" or node[0] == "binary" and node[3] == "/":
                return False
            if node[0] == "call":
                symbol = self.symbol_at(module, shift + node[1])
                if self.old.sort(symbol) != "data":
                    return False
        return True

    def inline(self, module, offset):
        rows = [row for row in self.rows[module] if row[0] <= offset < row[1]]
        for chunk, shift, value in self.bodies(module) if rows else ():
            for tree in nodes(value):
                if tree[0] == "let" and rows[0][2] == ("local", module, chunk, tree[4]):
                    return self.inline_let(module, shift, tree, rows[0][2])
                if tree[0] == "call" and rows[0][0] == shift + tree[1] and self.old.sort(rows[0][2]) == "def":
                    return self.inline_call(module, shift, tree, rows[0][2])
        raise Refusal("symbol", module, offset)

    def inline_let(self, module, shift, tree, symbol):
        value, body = tree[5], tree[6]
        if not self.safe(module, shift, value):
            raise Refusal("unsafe", module, shift + value[1])
        cells, at, group = plain("("), shift + body[1], 0
        for row in self.rows[module]:
            if row[2] == symbol and not row[3]:
                group += 1
                cells += self.copied(module, at, row[0]) + plain("(")
                cells += self.copied(module, shift + value[1], shift + value[2], group) + plain(")")
                at = row[1]
        cells += self.copied(module, at, shift + body[2]) + plain(")")
        return self.settle({module: self.replaced(module, [(shift + tree[1], shift + tree[2], cells)])}, {})

    def inline_call(self, module, shift, tree, symbol):
        chunk, (start, _) = self.place_of(symbol)
        item = self.old.items[symbol[1], chunk]
        cells = plain("(")
        for (mark, _), part in zip(item[3], tree[4]):
            cells += plain("let ") + Token(("local", symbol[1], chunk, mark[1]), mark[0], True, 1).cells() + plain(" = ")
            cells += self.copied(module, shift + part[1], shift + part[2]) + plain(" in ")
        cells += self.copied(symbol[1], start + item[5][1], start + item[5][2], 1) + plain(")")
        cells = self.replaced(module, [(shift + tree[1], shift + tree[2], cells)])
        if symbol[1] != module:
            cells = self.organised(module, cells, {})
        return self.settle({module: cells}, {})

    def definition(self, module, offset):
        symbol = self.symbol_at(module, offset)
        if symbol is None or symbol[0] != "item" or self.old.sort(symbol) != "def":
            raise Refusal("symbol", module, offset)
        chunk, (start, _) = self.place_of(symbol)
        fields = self.old.items[symbol[1], chunk][3]
        return symbol, [(start + mark[1], start + kind[1] + len(kind[0])) for mark, kind in fields]

    def rebuilt(self, symbol, fields, part):
        """All texts, in which the fields and the arguments of calls are what `part` makes of them."""
        cells = {}
        for module in self.program:
            lists = [fields] if module == symbol[1] else []
            for other, shift, tree in self.calls(symbol):
                if other == module:
                    lists.append([(shift + inner[1], shift + inner[2]) for inner in tree[4]])
            lists = [places for places in lists if places]
            cells[module] = self.within(module, 0, len(self.program[module]), sorted(lists), part)
        return cells

    def within(self, module, start, end, lists, part):
        """The cells of a part of a text, with the lists in it done."""
        found, at = [], start
        for places in lists:
            if places[0][0] >= at and places[-1][1] <= end and places != [(start, end)]:
                inner = lambda first, behind: self.within(module, first, behind, lists, part)
                found += self.copied(module, at, places[0][0]) + part(module, places, inner)
                at = places[-1][1]
        return found + self.copied(module, at, end)

    def reorder(self, module, offset, order):
        symbol, fields = self.definition(module, offset)
        if sorted(order) != list(range(len(fields))):
            raise Refusal("order", module, offset)

        def part(other, places, inner):
            found = []
            for number, place in enumerate(places):
                if number:
                    found += self.copied(other, places[number - 1][1], place[0])
                found += inner(*places[order[number]])
            return found
        return self.settle({} if len(fields) < 2 else self.rebuilt(symbol, fields, part), {})

    def drop_parameter(self, module, offset, index):
        symbol, fields = self.definition(module, offset)
        if index not in range(len(fields)):
            raise Refusal("order", module, offset)
        local = self.symbol_at(symbol[1], fields[index][0])
        for row in self.rows[symbol[1]]:
            if row[2] == local and not row[3]:
                raise Refusal("used", symbol[1], row[0])
        unsafe = [(other, shift + tree[4][index][1]) for other, shift, tree in self.calls(symbol)
                  if not self.safe(other, shift, tree[4][index])]
        if unsafe:
            raise Refusal("unsafe", *min(unsafe))

        def part(other, places, inner):
            found = []
            for number, place in enumerate(places):
                if number > (index == 0) and number != index:
                    found += self.copied(other, places[number - 1][1], place[0])
                if number != index:
                    found += inner(*place)
            return found
        return self.settle(self.rebuilt(symbol, fields, part), {})

    def tidy(self, module):
        cells = self.whole(module)
        # The names of chunks keep their tokens; all other signs are new.
        names = [cell[1] for cell in cells if cell[1] is not None and cell[2] == 0]
        text, found, at = tidied(self.program[module]), [], 0
        for start, end in chunks(text):
            for sort, first, behind in tokens(text[start:end]):
                if sort == "name":
                    found += plain(text[at:start + first]) + names.pop(0).cells()
                    at = start + behind
        return self.settle({module: found + plain(text[at:])}, {})

    def head(self, symbol):
        """The item, its module, and the place from behind the bracket of its fields to the sign before its value."""
        chunk, (start, end) = self.place_of(symbol)
        item = self.old.items[symbol[1], chunk]
        text = self.program[symbol[1]]
        ends = []
        for _, first, behind in tokens(text[start:end]):
            if text[start + first:start + behind] == "=":
                return item, chunk, start + ends[-3 if item[4] else -1], start + ends[-1]
            ends.append(behind)

    def annotate(self, module, offset):
        symbol, _ = self.definition(module, offset)
        item, chunk, bracket, _ = self.head(symbol)
        if item[4] is not None:
            raise Refusal("told", module, offset)
        kind = self.old.result(symbol[1], chunk)
        if kind[0] == "data" and self.old.scope(symbol[1]).get(kind[2]) != ("item",) + kind[1:]:
            raise Refusal("kind", module, offset)
        token = Token(("builtin", kind[0]), kind[0])
        if kind[0] == "data":
            token = Token(("item",) + kind[1:], kind[2])
        if kind[0] == "bound":
            token = Token(("local",) + kind[1:], [mark[0] for mark, _ in item[2] if mark[1] == kind[3]][0])
        return self.settle({symbol[1]: self.replaced(symbol[1], [(bracket, bracket, plain(": ") + token.cells())])}, {})

    def unannotate(self, module, offset):
        symbol, _ = self.definition(module, offset)
        item, _, bracket, end = self.head(symbol)
        if item[4] is None:
            raise Refusal("untold", module, offset)
        return self.settle({symbol[1]: self.replaced(symbol[1], [(bracket, end, [])])}, {})

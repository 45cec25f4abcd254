"""Points 50 to 60, 64 and 65 against another way to make changes, and point 51: what a change leaves as it was."""

import random
import re
import unittest

from samenames.changes import drop_parameter, extract, inline, rename, reorder
from samenames.check import first_problem
from samenames.chunks import chunks
from samenames.errors import Refused
from samenames.meaning import evaluate
from samenames.more import annotate, tidy, unannotate
from samenames.moves import move, organise
from samenames.parser import read_item
from samenames.tokens import tokens
from samenames.trees import nodes
from tests.evaluation import random_data, translated
from tests.programs import WORDS, random_program
from tests.reference import Reference
from tests.remaking import Refusal, Remaking

CHANGES = {"rename": rename, "organise": organise, "move": move, "extract": extract, "inline": inline,
           "reorder": reorder, "drop_parameter": drop_parameter, "tidy": tidy, "annotate": annotate,
           "unannotate": unannotate}
NAMES = WORDS + ["D1", "D2", "f3", "f4", "f5", "f6", "T2", "T3", "m3", "m4", "Int", "Bool", "q"]


def untidy(chance, program):
    """The program with imports at other places and over several lines, with comments, and blanks before and behind."""
    found = {}
    for module, text in program.items():
        parts = [text[start:end] for start, end in chunks(text)]
        rest = [part for part in parts if not part.startswith("import")]
        for part in parts:
            if part.startswith("import"):
                if chance.random() < 0.3:
                    part = part.replace(": ", " : # x\n  ")
                rest.insert(chance.randrange(len(rest) + 1), part)
        for number in range(len(rest)):
            rest[number] += chance.choice(["", "", "", "\n", "  # x y\n", "# note\n", " \n\n"])
        text = chance.choice(["", "", "", "\n", "  # c\n", "  x\n"]) + "".join(rest)
        found[module] = chance.choice([text, text.rstrip("\n"), text + "# end"])
    return found


def shared(chance, program):
    """The program in which some items have names that others have, too."""
    for _ in range(4):
        module = chance.choice(sorted(program))
        try:
            program = rename(program, module, chance.randrange(len(program[module]) + 1), chance.choice(NAMES))
        except Refused:
            pass
    return program


def some_offset(chance, text, pattern):
    """Mostly the start of something that fits the pattern."""
    found = [row.start(1) for row in re.finditer(pattern, text)]
    return chance.choice(found) if found and chance.random() < 0.8 else chance.randrange(len(text) + 1)


def some_arguments(chance, program, way, module):
    """Arguments for a change behind its program."""
    text = program[module]
    if way in ("organise", "tidy"):
        return (module,)
    if way == "extract":
        trees = []
        for start, end in chunks(text):
            item = read_item(text[start:end])
            if item[0] in ("def", "impl"):
                trees.extend((start + tree[1], start + tree[2]) for tree in nodes(item[-1]))
        start, end = chance.choice(trees) if trees and chance.random() < 0.9 else (0, len(text))
        return (module, start, end, chance.choice(NAMES))
    patterns = {"inline": r"(?:let )?\b(f\d+|(?<=let )\w+)", "rename": r"\b([A-Za-z]\w*)"}
    offset = some_offset(chance, text, patterns.get(way, r"\b([DTfm]\d)" if way == "move" else r"\b(f\d)"))
    if way == "rename":
        return (module, offset, chance.choice(NAMES + ["1", "if"]))
    if way == "move":
        return (module, offset, chance.choice(["a", "b", "c", "mod"]))
    if way in ("inline", "annotate", "unannotate"):
        return (module, offset)
    # Mostly as many numbers as there are fields.
    head = re.search(r"def " + re.escape(text[offset:offset + 2]) + r"\b.*?\((.*?)\)", "\n".join(program.values()))
    many = head.group(1).count(":") if head and chance.random() < 0.9 else 3
    if way == "reorder":
        return (module, offset, chance.sample(range(many), many))
    return (module, offset, chance.randrange(many + 1))


class LikeTheOtherTest(unittest.TestCase):
    def outcome(self, change, *arguments):
        try:
            return change(*arguments)
        except Refused as error:
            return (error.code, error.file, error.start)
        except Refusal as error:
            return error.args

    def test_random_changes(self):
        chance = random.Random(31)
        counts = {}
        for _ in range(70):
            program = random_program(chance, 400)
            program = untidy(chance, shared(chance, program))
            for way in list(CHANGES) + ["rename", "move", "inline"]:
                arguments = some_arguments(chance, program, way, chance.choice(sorted(program)))
                before = dict(program)
                found = self.outcome(CHANGES[way], program, *arguments)
                expected = self.outcome(lambda *rest: getattr(Remaking(program), way)(*rest), *arguments)
                self.assertEqual(found, expected, (program, way, arguments))
                self.assertEqual(program, before)
                code = "done" if isinstance(found, dict) else found[0]
                counts[way, code] = counts.get((way, code), 0) + 1
        for way in CHANGES:
            self.assertGreater(counts[way, "done"], 4, way)
        self.assertGreater(sum(counts.get((way, "clash"), 0) for way in CHANGES), 20)


class OutcomesTest(unittest.TestCase):
    """Each def item has the outcome that it had."""

    def target(self, program, way, arguments):
        """The symbol at the offset, and the one that it has afterwards."""
        old = Remaking(program)
        symbol = old.symbol_at(arguments[0], arguments[1])
        if way in ("move", "rename") and symbol is not None and symbol[0] == "item":
            if way == "rename":
                return {symbol: symbol[:2] + (arguments[2],)}
            item = old.old.item_of(symbol)
            names = [item[1][0]] + ([item[2][0]] if item[0] == "trait" else [])
            return {symbol[:2] + (name,): ("item", arguments[2], name) for name in names}
        return {symbol: symbol}

    def compare(self, chance, program, way, arguments, found):
        old = Reference(program)
        instead = self.target(program, way, arguments) if len(arguments) > 1 else {}
        values = 0
        for module in program:
            for name, (sort, chunk, _) in old.declared[module].items():
                if sort != "def":
                    continue
                symbol = instead.get(("item", module, name), ("item", module, name))
                kinds = [old.kind_named(module, chunk, kind) for _, kind in old.items[module, chunk][3]]
                for _ in range(2):
                    data = [random_data(chance, old, kind) for kind in kinds]
                    if None in data:
                        continue
                    first = evaluate(program, module, name, data, 3000)
                    given = [translated(part, instead) for part in data]
                    if way in ("reorder", "drop_parameter") and ("item", module, name) in instead:
                        order = arguments[2]
                        if way == "drop_parameter":
                            order = [number for number in range(len(data)) if number != arguments[2]]
                        given = [given[number] for number in order]
                    second = evaluate(found, symbol[1], symbol[2], given, 3000)
                    if ("tired",) not in (first, second):
                        self.assertEqual(translated(first, instead), second, (program, way, arguments, found, data))
                        values += first[0] == "value"
        return values

    def test_outcomes(self):
        chance = random.Random(32)
        values = {}
        for _ in range(60):
            program = untidy(chance, random_program(chance, 500))
            for way in CHANGES:
                arguments = some_arguments(chance, program, way, chance.choice(sorted(program)))
                try:
                    found = CHANGES[way](program, *arguments)
                except Refused:
                    continue
                self.assertIsNone(first_problem(found))
                values[way] = values.get(way, 0) + self.compare(chance, program, way, arguments, found)
        for way in CHANGES:
            self.assertGreater(values[way], 10, way)


class ThereAndBackTest(unittest.TestCase):
    def test_renaming_back(self):
        chance = random.Random(33)
        back = 0
        for _ in range(40):
            program = shared(chance, random_program(chance, 500))
            module = chance.choice(sorted(program))
            names = [token for token in tokens(program[module]) if token[0] == "name"]
            if not names:
                continue
            _, start, end = chance.choice(names)
            try:
                found = rename(program, module, start, "q7")
            except Refused as error:
                self.assertEqual(error.code, "symbol")
                continue
            again = [other[1] for other in tokens(found[module]) if found[module][other[1]:other[2]] == "q7"]
            self.assertEqual(rename(found, module, again[0], program[module][start:end]), program)
            back += 1
        self.assertGreater(back, 20)


if __name__ == "__main__":
    unittest.main()

"""The interface stands where the document lists it, and the package keeps to the plain rules of its language.

Only rules that can be seen line by line are looked at here: sizes, characters, imports, builtins, barred words.
"""

import ast
import builtins
import importlib
import inspect
import os
import re
import unittest

FOLDER = os.path.join(os.path.dirname(os.path.dirname(os.path.abspath(__file__))), "samenames")

# The functions of the interface with the names of their arguments, by file.
FUNCTIONS = {
    "texts": {"is_text": ["value"], "apply_edit": ["text", "edit"], "inverse": ["text", "edit"],
              "apply_joint": ["text", "edits"], "difference": ["old", "new"],
              "line_column": ["text", "offset"], "offset_at": ["text", "line", "column"]},
    "tokens": {"tokens": ["text"], "relexed": ["text", "old", "edit"], "is_name": ["value"]},
    "chunks": {"chunks": ["text"]},
    "parser": {"read_item": ["text"], "read_value": ["text"]},
    "trees": {"children": ["tree"], "nodes": ["tree"], "tree_at": ["tree", "start", "end"],
              "same_shape": ["first", "second"]},
    "scopes": {"items": ["program", "module"], "declared": ["program", "module"], "scope": ["program", "module"],
               "sort_of": ["program", "symbol"]},
    "names": {"occurrences": ["program", "module", "chunk"], "name_problems": ["program", "module", "chunk"],
              "locals_at": ["program", "module", "chunk", "offset"]},
    "infer": {"impls": ["program"], "result_kind": ["program", "module", "chunk"], "cyclic": ["program"],
              "judged": ["program", "module", "chunk"], "written": ["program", "kind"]},
    "check": {"problems": ["program", "module"], "first_problem": ["program"],
              "all_occurrences": ["program", "module"]},
    "changes": {"rename": ["program", "module", "offset", "new"], "reorder": ["program", "module", "offset", "order"],
                "drop_parameter": ["program", "module", "offset", "index"],
                "extract": ["program", "module", "start", "end", "name"], "inline": ["program", "module", "offset"],
                "is_safe": ["program", "module", "chunk", "tree"]},
    "moves": {"organise": ["program", "module"], "move": ["program", "module", "offset", "goal"]},
    "meaning": {"evaluate": ["program", "module", "name", "arguments", "fuel"]},
    "printer": {"print_value": ["tree"], "print_item": ["item"], "tidied": ["text"]},
    "more": {"tidy": ["program", "module"], "annotate": ["program", "module", "offset"],
             "unannotate": ["program", "module", "offset"], "fixes": ["program", "module"],
             "with_fix": ["program", "module", "fix"]},
    "looks": {"colours": ["program", "module"], "hints": ["program", "module"], "folds": ["program", "module"],
              "signature_at": ["program", "module", "offset"], "callers": ["program", "module", "offset"]},
}
CLASSES = {
    "errors": ["ServerError", "InvalidEdit", "UnknownFile", "FileExists", "NothingToUndo", "Cancelled", "UnknownKey",
               "CyclicKey", "SyntaxProblem", "Refused"],
    "keeper": ["Keeper"],
    "server": ["Server"],
    "session": ["Session"],
}
# The methods of the interface with the names of their arguments, by file and class.
METHODS = {
    ("keeper", "Keeper"): {"__init__": ["compute"], "put": ["key", "value"], "drop": ["key"], "ask": ["key"],
                           "limit": ["count"], "forget": ["key"], "forget_all": [], "revision": [], "computed": [],
                           "kept": []},
    ("server", "Server"): {"__init__": ["program"], "modules": [], "text": ["module"], "program": [],
                           "open_file": ["module", "text"], "close_file": ["module"], "edit": ["module", "edit"],
                           "undo": [], "redo": [], "problems": ["module"], "outline": ["module"],
                           "symbol_at": ["module", "offset"], "definition": ["module", "offset"],
                           "uses": ["module", "offset"], "kind_at": ["module", "offset"],
                           "completions": ["module", "offset"], "limit": ["count"], "forget": [], "computations": [],
                           "rename": ["module", "offset", "new"], "move": ["module", "offset", "goal"],
                           "extract": ["module", "start", "end", "name"], "inline": ["module", "offset"],
                           "reorder": ["module", "offset", "order"],
                           "drop_parameter": ["module", "offset", "index"], "organise": ["module"]},
    ("session", "Session"): {"__init__": ["program"], "receive": ["message"], "work": ["count"], "told": [],
                             "program": [], "version": ["module"], "waiting": []},
}

BUILTINS = ("len range enumerate zip min max sum abs sorted reversed int str bool list tuple dict set frozenset "
            "isinstance ord repr any all divmod pow getattr hasattr setattr iter next map super property staticmethod "
            "classmethod Exception ValueError TypeError KeyError IndexError LookupError ZeroDivisionError "
            "ArithmeticError OverflowError RuntimeError NotImplementedError AttributeError StopIteration "
            "NotImplemented object float bytes").split()
LIBRARY = ["heapq", "math", "itertools", "collections"]
BARRED = ["register", "mro", "elements", "open", "input", "law", "version_info", "with_traceback", "add_note"]
BARRED_WORDS = ("type typing typing_extensions enum Enum IntEnum StrEnum Flag IntFlag Generic Protocol ABC ABCMeta "
                "namedtuple NamedTuple TypedDict TYPE_CHECKING abstractmethod").split()
# Names that variables, functions, classes, imports, parameters and methods do not have; attributes may.
BARRED_BINDINGS = ("attrgetter breakpoint builtins compile copyright credits delattr dir eval exec exit gc globals help "
                   "id importlib license locals methodcaller os quit type vars sys").split()
FUNCTION_NODES = (ast.FunctionDef, ast.ClassDef)


def paths():
    return [os.path.join(FOLDER, name) for name in sorted(os.listdir(FOLDER)) if name != "__pycache__"]


def sources():
    for path in paths():
        with open(path, encoding="utf-8") as file:
            text = file.read()
        yield os.path.basename(path), text, ast.parse(text)


def bound_names(node):
    """The names that a node gives to something."""
    if isinstance(node, FUNCTION_NODES):
        return [node.name]
    if isinstance(node, ast.arg):
        return [node.arg]
    if isinstance(node, ast.Name) and not isinstance(node.ctx, ast.Load):
        return [node.id]
    if isinstance(node, ast.alias):
        return [node.asname or node.name]
    return []


def methods(tree):
    return [row for node in ast.walk(tree) if isinstance(node, ast.ClassDef) for row in node.body]


def docstrings(tree):
    nodes = [node for node in ast.walk(tree) if isinstance(node, FUNCTION_NODES + (ast.Module,))]
    return [node.body[0].value for node in nodes if ast.get_docstring(node) is not None]


class InterfaceTest(unittest.TestCase):
    def test_functions_are_defined_in_their_files(self):
        for file, functions in FUNCTIONS.items():
            module = importlib.import_module("samenames." + file)
            for name, arguments in functions.items():
                function = getattr(module, name)
                self.assertTrue(inspect.isfunction(function))
                self.assertEqual(function.__module__, "samenames." + file)
                self.assertEqual(list(inspect.signature(function).parameters), arguments)

    def test_classes_are_defined_in_their_files(self):
        for file, names in CLASSES.items():
            module = importlib.import_module("samenames." + file)
            for name in names:
                self.assertTrue(inspect.isclass(getattr(module, name)))
                self.assertEqual(getattr(module, name).__module__, "samenames." + file)

    def test_methods_are_defined_in_their_classes(self):
        for (file, name), methods_of in METHODS.items():
            found = getattr(importlib.import_module("samenames." + file), name)
            for method, arguments in methods_of.items():
                self.assertIn(method, vars(found))
                self.assertEqual(list(inspect.signature(vars(found)[method]).parameters), ["self"] + arguments)


class LanguageTest(unittest.TestCase):
    def test_the_folder_holds_plain_files_only(self):
        for path in paths():
            self.assertTrue(os.path.isfile(path), path)
            self.assertRegex(os.path.basename(path), r"\A[a-z_][a-z0-9_]*\.py\Z")

    def test_characters_and_sizes(self):
        for name, text, _ in sources():
            self.assertIsNone(re.search(r"[^\n -~]", text), name)
            lines = text.split("\n")
            self.assertLessEqual(len(lines), 399, name)
            self.assertLessEqual(max(map(len, lines)), 120, name)

    def test_functions_are_small(self):
        for name, _, tree in sources():
            for node in ast.walk(tree):
                if isinstance(node, ast.FunctionDef):
                    self.assertLessEqual(node.end_lineno - node.lineno + 1, 40, (name, node.name))

    def test_imports_are_from_the_package_by_full_names(self):
        for name, _, tree in sources():
            for node in ast.walk(tree):
                self.assertNotIsInstance(node, ast.Import, name)
                if isinstance(node, ast.ImportFrom):
                    self.assertEqual(node.level, 0, name)
                    self.assertNotIn("*", [alias.name for alias in node.names])
                    self.assertTrue(node.module.startswith("samenames.") or node.module in LIBRARY, node.module)

    def test_only_allowed_builtins_are_used(self):
        for name, _, tree in sources():
            own = methods(tree)
            for node in ast.walk(tree):
                if isinstance(node, ast.Name) and node.id in vars(builtins):
                    self.assertIn(node.id, BUILTINS, name)
                # A method may be called like a builtin that is not used.
                taken = BUILTINS if node in own else vars(builtins)
                for bound in bound_names(node):
                    self.assertNotIn(bound, taken, name)

    def test_barred_names_and_words(self):
        for name, _, tree in sources():
            told = docstrings(tree)
            for node in ast.walk(tree):
                words = bound_names(node)
                if isinstance(node, ast.Attribute):
                    words = [node.attr]
                if isinstance(node, ast.Constant) and isinstance(node.value, str) and node not in told:
                    self.assertNotIn("%", node.value, name)
                    self.assertFalse(node.value.endswith(("._", ".__")), name)
                    words = re.findall(r"\w+", node.value)
                    self.assertFalse(set(words) & set(BARRED_WORDS), name)
                else:
                    self.assertFalse(set(words) & set(BARRED + BARRED_WORDS), name)
                self.assertFalse(set(bound_names(node)) & set(BARRED_BINDINGS), name)

    def test_module_level_is_plain(self):
        for name, _, tree in sources():
            for node in tree.body:
                if isinstance(node, ast.Assign):
                    self.assertEqual([type(target) for target in node.targets], [ast.Name], name)
                    for part in ast.walk(node.value):
                        self.assertNotIsInstance(part, (ast.Name, ast.Call, ast.Lambda), name)
                        # Inside of a table stand no lists and no dicts.
                        if part is not node.value:
                            self.assertNotIsInstance(part, (ast.List, ast.Dict), name)
                elif not isinstance(node, FUNCTION_NODES + (ast.ImportFrom,)):
                    self.assertIsInstance(node.value, ast.Constant, name)

    def test_locals_have_no_names_of_imports_and_classes(self):
        for name, _, tree in sources():
            taken = {alias.name for node in tree.body if isinstance(node, ast.ImportFrom) for alias in node.names}
            taken |= {node.name for node in tree.body if isinstance(node, ast.ClassDef)}
            for node in ast.walk(tree):
                if isinstance(node, ast.arg) or isinstance(node, ast.Name) and not isinstance(node.ctx, ast.Load):
                    self.assertFalse(set(bound_names(node)) & taken, (name, bound_names(node)))

    def test_what_is_imported_is_defined_there_and_used(self):
        for name, _, tree in sources():
            used = {node.id for node in ast.walk(tree) if isinstance(node, ast.Name)}
            for node in tree.body:
                if isinstance(node, ast.ImportFrom) and node.module.startswith("samenames."):
                    module = importlib.import_module(node.module)
                    for alias in node.names:
                        self.assertIn(alias.name, used, name)
                        found = getattr(module, alias.name)
                        self.assertEqual(getattr(found, "__module__", node.module), node.module, name)

    def test_no_floats_and_no_true_division(self):
        for name, _, tree in sources():
            for node in ast.walk(tree):
                self.assertNotIsInstance(node, (ast.Div, ast.Global, ast.AsyncFunctionDef), name)
                if isinstance(node, ast.Constant):
                    self.assertNotIsInstance(node.value, (float, complex), name)


if __name__ == "__main__":
    unittest.main()

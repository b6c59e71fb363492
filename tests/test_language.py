"""The files of the package: the interface as listed, and the rules of the language that can be counted.

This is no whole check of the language; it finds what slips in most easily.
"""

import ast
import importlib
import inspect
import re
import unittest
from pathlib import Path

PACKAGE = Path(__file__).resolve().parent.parent / "toldbyrest"
FILES = sorted(PACKAGE.rglob("*.py"))

INTERFACE = {
    "schemas": {"is_name": ["thing"], "Schema": ["tables"]},
    "rows": {
        "are_rows": ["schema", "thing"], "rows_at": ["schema", "rows", "table", "column", "value"],
        "beside": ["schema", "rows", "others"], "turned": ["schema", "rows", "table", "index", "flag"],
    },
    "conditions": {
        "is_condition": ["schema", "table", "thing"], "meets": ["schema", "rows", "table", "index", "condition"],
        "depth": ["condition"], "has_parts": ["table", "condition"], "flags_in": ["table", "condition"],
    },
    "texts": {
        "format_condition": ["condition"], "format_book": ["book"], "format_schema": ["schema"],
        "parse_condition": ["schema", "table", "text"], "parse_book": ["schema", "text"], "parse_schema": ["text"],
    },
    "books": {
        "is_rule": ["schema", "thing"], "is_book": ["schema", "thing"],
        "broken": ["schema", "book", "rows"], "keeps": ["schema", "book", "rows"],
    },
    "lacking": {
        "is_lacking": ["schema", "thing"], "bare": ["schema", "rows", "lacking"],
        "are_bare": ["schema", "lacking", "thing"], "is_filling": ["schema", "book", "lacking", "rows", "thing"],
    },
    "fillings": {
        "fillings": ["schema", "book", "lacking", "rows"], "how_many": ["schema", "book", "lacking", "rows"],
        "sure": ["schema", "book", "lacking", "rows"],
    },
    "looks": {
        "looks": ["schema", "book"], "own_looks": ["schema", "book", "table"],
        "looks_into": ["schema", "book", "table", "column"], "looks_through": ["schema", "book", "kind"],
    },
    "kinds": {
        "row_kinds": ["schema", "book", "table"], "is_row_kind": ["schema", "book", "thing"],
        "is_meeting": ["schema", "book", "thing"], "gives": ["schema", "book", "row_kind", "index"],
        "fits": ["schema", "book", "row_kind", "column", "meeting"],
        "view_on": ["schema", "book", "rows", "table", "index"],
    },
    "left": {
        "rounds_of_kinds": ["schema", "book"], "kinds_left": ["schema", "book", "table"],
        "rows_with": ["schema", "book", "row_kind"], "can_have_rows": ["schema", "book", "table"],
    },
    "candidates": {
        "candidates": ["schema", "book", "lacking", "rows", "number"],
        "worked_out": ["schema", "book", "lacking", "rows", "number"],
        "last_round": ["schema", "book", "lacking", "rows"],
    },
    "reasons": {
        "is_reason": ["schema", "book", "lacking", "rows", "thing"],
        "reason": ["schema", "book", "lacking", "rows", "table", "index", "row_kind"],
    },
    "pairs": {
        "pairs": ["schema", "book", "lacking", "table"], "pairs_left": ["schema", "book", "lacking", "table"],
        "rounds_of_pairs": ["schema", "book", "lacking"],
    },
    "told": {
        "rounds_needed": ["schema", "book", "lacking", "table", "flag"],
        "is_told": ["schema", "book", "lacking", "table", "flag"], "levels": ["schema", "book", "lacking"],
    },
    "papers": {"is_paper": ["schema", "book", "lacking", "thing"], "paper": ["schema", "book", "lacking", "pair"]},
    "apart": {
        "data_apart": ["schema", "book", "lacking", "table", "flag"],
        "data_behind": ["schema", "book", "lacking", "table", "flag", "number"],
        "data_near": ["schema", "book", "lacking", "table", "flag", "number"],
    },
    "tellers": {
        "do_tell": ["schema", "book", "kept"], "least_tellers": ["schema", "book"], "greatest_mutes": ["schema", "book"],
    },
    "single": {
        "least_for": ["schema", "book", "table", "flag"], "greatest_without": ["schema", "book", "table", "flag"],
    },
    "telling": {
        "is_telling": ["schema", "book", "lacking", "table", "flag", "condition"],
        "telling": ["schema", "book", "lacking", "table", "flag"],
    },
    "follows": {
        "follows": ["schema", "book", "table", "condition"], "data_against": ["schema", "book", "table", "condition"],
        "needless": ["schema", "book"], "are_alike": ["schema", "one", "other"],
    },
    "needed": {
        "least_rules": ["schema", "book", "lacking", "table", "flag"],
        "greatest_spoilers": ["schema", "book", "lacking", "table", "flag"],
    },
    "reach": {
        "near": ["schema", "rows", "table", "index", "steps"], "cut_out": ["schema", "rows", "table", "index", "steps"],
        "steps_between": ["schema", "rows", "table", "index", "other", "number"],
    },
    "repairs": {"fewest_turns": ["schema", "book", "lacking", "rows"]},
    "stores": {"Store": ["schema", "book", "lacking"]},
    "shell": {"Shell": []},
}
METHODS = {
    ("schemas", "Schema"): {
        "columns": ["table"], "flags": ["table"], "kind_of": ["table", "column"], "places": ["kind"], "__eq__": ["other"],
    },
    ("stores", "Store"): {
        "put": ["table", "values", "flags"], "drop": ["table", "index"], "turn": ["table", "index", "flag"], "undo": [],
        "copy": [], "__len__": [],
    },
    ("shell", "Shell"): {"run": ["line"]},
}
PROPERTIES = {
    ("schemas", "Schema"): ["tables", "flag_places"], ("stores", "Store"): ["rows", "told", "sound"], ("shell", "Shell"): [],
}

BUILTINS = set(
    "len range enumerate zip min max sum abs sorted reversed int str bool list tuple dict set isinstance ord repr any "
    "all divmod pow iter next ValueError NotImplemented property".split()
)
BUILTIN_METHODS = set(
    "append clear copy count endswith extend find get index insert isalnum isalpha isdigit islower isspace isupper "
    "items join keys ljust lower lstrip partition pop remove replace reverse rfind rjust rpartition rsplit rstrip "
    "setdefault sort split splitlines startswith strip update upper values zfill bit_length add discard".split()
)
BARRED_WORDS = re.compile(
    r"\b(type|typing|enum|Enum|Flag|Generic|Protocol|ABC|namedtuple|NamedTuple|TypedDict)\b|dataclass|overload"
)
BARRED_NAMES = set("register mro elements open input law version_info with_traceback add_note".split())
# Names that attributes must not have, as values of Python's own have methods of these names.
BARRED_ATTRIBUTES = set(
    "items keys values pop update append clear extend insert remove reverse setdefault sort args encode decode hex "
    "fromhex format register mro".split()
)
SPECIAL = {"__init__", "__eq__", "__len__"}


def nodes_of(path):
    """Return all nodes of the syntax tree of a file."""
    return list(ast.walk(ast.parse(path.read_text(encoding="utf-8"))))


def without_docstrings(tree):
    """Return the strings of a tree other than docstrings."""
    docs = set()
    for node in ast.walk(tree):
        if isinstance(node, (ast.Module, ast.ClassDef, ast.FunctionDef)) and ast.get_docstring(node) is not None:
            docs.add(id(node.body[0].value))
    found = [node for node in ast.walk(tree) if isinstance(node, ast.Constant) and isinstance(node.value, str)]
    return [node.value for node in found if id(node) not in docs]


class InterfaceTest(unittest.TestCase):
    def parameters(self, thing):
        return [name for name in inspect.signature(thing).parameters if name != "self"]

    def test_functions_and_classes_stand_in_their_files(self):
        for module, parts in INTERFACE.items():
            for name, parameters in parts.items():
                with self.subTest(f"{module}.{name}"):
                    thing = getattr(importlib.import_module(f"toldbyrest.{module}"), name)
                    self.assertEqual(thing.__module__, f"toldbyrest.{module}")
                    self.assertEqual(self.parameters(thing), parameters)

    def test_methods_and_properties_stand_in_their_classes(self):
        for (module, name), methods in METHODS.items():
            held = vars(getattr(importlib.import_module(f"toldbyrest.{module}"), name))
            for method, parameters in methods.items():
                self.assertEqual(self.parameters(held[method]), parameters)
            for name_of_property in PROPERTIES[module, name]:
                self.assertIsInstance(held[name_of_property], property)


class LanguageTest(unittest.TestCase):
    def test_there_are_files(self):
        self.assertIn(PACKAGE / "__init__.py", FILES)
        others = [path for path in PACKAGE.rglob("*") if path.is_file() and path.suffix not in (".py", ".pyc")]
        self.assertEqual(others, [])

    def test_sizes_and_characters(self):
        for path in FILES:
            with self.subTest(path.name):
                text = path.read_text(encoding="utf-8")
                lines = text.split("\n")
                self.assertLess(len(lines), 400)
                self.assertLessEqual(max(len(line) for line in lines), 120)
                self.assertTrue(all(char == "\n" or " " <= char <= "~" for char in text))
                self.assertRegex(path.name, r"^[a-z0-9_]+\.py$")
                for node in nodes_of(path):
                    if isinstance(node, ast.FunctionDef):
                        self.assertLessEqual(node.end_lineno - node.lineno + 1, 40, node.name)

    def test_imports_name_the_file_that_defines(self):
        for path in FILES:
            for node in nodes_of(path):
                if isinstance(node, (ast.Import, ast.ImportFrom)):
                    with self.subTest(f"{path.name}:{node.lineno}"):
                        self.assertIsInstance(node, ast.ImportFrom)
                        self.assertEqual(node.level, 0)
                        self.assertTrue(node.module.startswith("toldbyrest."))
                        for part in node.names:
                            self.assertIsNone(part.asname)
                            thing = getattr(importlib.import_module(node.module), part.name)
                            self.assertEqual(getattr(thing, "__module__", node.module), node.module)

    def test_nothing_is_imported_in_vain(self):
        for path in FILES:
            nodes = nodes_of(path)
            used = {node.id for node in nodes if isinstance(node, ast.Name)}
            for node in nodes:
                if isinstance(node, ast.ImportFrom):
                    for part in node.names:
                        self.assertIn(part.name, used, path.name)

    def test_words_and_strings(self):
        for path in FILES:
            with self.subTest(path.name):
                nodes = nodes_of(path)
                tree = ast.parse(path.read_text(encoding="utf-8"))
                words = [node.id for node in nodes if isinstance(node, ast.Name)]
                words += [node.attr for node in nodes if isinstance(node, ast.Attribute)]
                words += [node.arg for node in nodes if isinstance(node, ast.arg)]
                words += [node.name for node in nodes if isinstance(node, (ast.FunctionDef, ast.ClassDef))]
                for word in words:
                    self.assertNotIn(word, BARRED_NAMES)
                    self.assertTrue(not word.startswith("__") or word in SPECIAL, word)
                    self.assertNotRegex(word, BARRED_WORDS)
                for text in without_docstrings(tree):
                    self.assertNotRegex(text, BARRED_WORDS)
                    self.assertNotIn("%", text)

    def test_names_of_imports_and_classes_mean_nothing_else(self):
        for path in FILES:
            nodes = nodes_of(path)
            taken = {part.name for node in nodes if isinstance(node, ast.ImportFrom) for part in node.names}
            taken |= {node.name for node in nodes if isinstance(node, ast.ClassDef)}
            bound = {node.arg for node in nodes if isinstance(node, ast.arg)}
            bound |= {node.id for node in nodes if isinstance(node, ast.Name) and isinstance(node.ctx, ast.Store)}
            bound |= {node.name for node in nodes if isinstance(node, ast.FunctionDef)}
            self.assertEqual(taken & bound, set(), path.name)

    def test_attributes_and_methods_of_own_classes(self):
        for path in FILES:
            for node in nodes_of(path):
                if isinstance(node, ast.ClassDef):
                    methods = {part.name for part in node.body if isinstance(part, ast.FunctionDef)}
                    attributes = {
                        part.attr for part in ast.walk(node)
                        if isinstance(part, ast.Attribute) and isinstance(part.ctx, ast.Store)
                    }
                    self.assertEqual(attributes & (methods | BARRED_ATTRIBUTES), set(), path.name)
                    # A store has a method of this name, which modifies nothing; other names are for builtin values.
                    self.assertLessEqual(methods & BUILTIN_METHODS, {"copy"}, path.name)

    def test_properties_are_no_attributes_elsewhere(self):
        nodes = [node for path in FILES for node in nodes_of(path)]
        properties = {node.name for node in nodes if isinstance(node, ast.FunctionDef) and node.decorator_list}
        stored = {node.attr for node in nodes if isinstance(node, ast.Attribute) and isinstance(node.ctx, ast.Store)}
        self.assertEqual(stored & properties, set())

    def test_what_properties_run_changes_nothing_but_what_it_makes(self):
        functions, methods, imported, running = {}, {}, {}, []
        for path in FILES:
            for node in ast.parse(path.read_text(encoding="utf-8")).body:
                if isinstance(node, ast.ImportFrom):
                    for part in node.names:
                        imported[path.stem, part.name] = (node.module.split(".")[-1], part.name)
                if isinstance(node, ast.FunctionDef):
                    functions[path.stem, node.name] = node
                if isinstance(node, ast.ClassDef):
                    for part in node.body:
                        if isinstance(part, ast.FunctionDef):
                            methods.setdefault(part.name, []).append((path.stem, part))
                            running += [(path.stem, part)] if part.decorator_list or part.name in ("__eq__", "__len__") else []
                            functions.update({(path.stem, node.name): part} if part.name == "__init__" else {})
        seen = set()
        while running:
            module, function = running.pop()
            if function not in seen:
                seen.add(function)
                self.check_pure(function)
                for node in ast.walk(function):
                    if isinstance(node, ast.Call) and isinstance(node.func, ast.Attribute):
                        running += methods.get(node.func.attr, [])
                    if isinstance(node, ast.Call) and isinstance(node.func, ast.Name):
                        name = imported.get((module, node.func.id), (module, node.func.id))
                        running += [(name[0], functions[name])] if name in functions else []
        self.assertGreater(len(seen), 20)
        # What is a method in one class and an attribute in another one is not called there.
        stored = {
            node.attr for path in FILES for node in nodes_of(path)
            if isinstance(node, ast.Attribute) and isinstance(node.ctx, ast.Store)
        }
        called = {
            node.func.attr for function in seen for node in ast.walk(function)
            if isinstance(node, ast.Call) and isinstance(node.func, ast.Attribute)
        }
        self.assertEqual(stored & called & set(methods), set())

    def check_pure(self, function):
        """Check that a function changes only what it has made, as far as its names tell, and calls nothing it is given."""
        given = {part.arg for part in function.args.args}
        made = {node.id for node in ast.walk(function) if isinstance(node, ast.Name) and isinstance(node.ctx, ast.Store)}
        for node in ast.walk(function):
            with self.subTest(f"{function.name}:{getattr(node, 'lineno', 0)}"):
                if isinstance(node, ast.Attribute) and isinstance(node.ctx, (ast.Store, ast.Del)):
                    # What a property keeps for itself stands in an if of its own.
                    self.assertEqual([function.name, node.attr], ["_told", "_told_so_far"])
                if isinstance(node, ast.Subscript) and isinstance(node.ctx, (ast.Store, ast.Del)):
                    self.assertIn(getattr(node.value, "id", ""), made - given)
                if isinstance(node, ast.Call):
                    self.assertNotIn(getattr(node.func, "id", ""), given)
                    if getattr(node.func, "attr", "") in ("append", "extend", "insert", "remove", "pop", "clear", "update", "sort"):
                        root = node.func.value
                        while isinstance(root, (ast.Attribute, ast.Subscript, ast.Call)):
                            root = root.func if isinstance(root, ast.Call) else root.value
                        self.assertIn(root.id, made - given)

    def test_builtins_and_methods(self):
        own = {node.name for path in FILES for node in nodes_of(path) if isinstance(node, (ast.FunctionDef, ast.ClassDef))}
        # The examples leave the last answer behind in _, which is no builtin.
        builtins = set(dir(importlib.import_module("builtins"))) - {"_", "super"}
        for path in FILES:
            for node in nodes_of(path):
                with self.subTest(f"{path.name}:{getattr(node, 'lineno', 0)}"):
                    if isinstance(node, ast.Name) and node.id in builtins:
                        self.assertIn(node.id, BUILTINS)
                        self.assertIsInstance(node.ctx, ast.Load)
                    if isinstance(node, ast.arg):
                        self.assertNotIn(node.arg, builtins)
                    if isinstance(node, ast.Call) and isinstance(node.func, ast.Attribute):
                        self.assertIn(node.func.attr, own | BUILTIN_METHODS)

    def test_statements_and_expressions(self):
        # any, all and the like take lists here, because a class has an __eq__: no generator expressions.
        barred = (ast.GeneratorExp, ast.AsyncFunctionDef, ast.AsyncFor, ast.AsyncWith, ast.Await, ast.Div, ast.MatMult)
        for path in FILES:
            for node in nodes_of(path):
                with self.subTest(f"{path.name}:{getattr(node, 'lineno', 0)}"):
                    self.assertNotIsInstance(node, barred)
                    if isinstance(node, ast.Constant):
                        self.assertNotIsInstance(node.value, (float, complex))
                    if isinstance(node, (ast.FunctionDef, ast.ClassDef)):
                        decorators = [getattr(part, "id", None) for part in node.decorator_list]
                        self.assertIn(decorators, ([], ["property"]))
                    if isinstance(node, ast.Compare) and isinstance(node.ops[0], (ast.Is, ast.IsNot)):
                        self.assertIn(getattr(node.comparators[0], "value", ""), (None, True, False))


if __name__ == "__main__":
    unittest.main()

"""The rules of ../shared/LANGUAGE.md that can be read off the files of the package."""

import ast
import builtins
import importlib
import unittest
from pathlib import Path

FOLDER = Path(__file__).resolve().parent.parent / "contentties"
FILES = sorted(FOLDER.glob("*.py"))

ALLOWED_BUILTINS = set(
    "len range enumerate zip min max sum abs sorted reversed int str bool bytes list tuple dict set isinstance ord "
    "repr any all divmod Exception ValueError TypeError KeyError IndexError LookupError ZeroDivisionError "
    "ArithmeticError OverflowError RuntimeError NotImplementedError NotImplemented iter next property classmethod "
    "staticmethod super".split()
)
ALLOWED_METHODS = set(
    "append clear copy count endswith extend find get index insert isalnum isalpha isdigit islower isspace isupper "
    "items join keys ljust lower lstrip partition pop remove replace reverse rfind rjust rpartition rsplit rstrip "
    "setdefault split splitlines startswith strip update upper values zfill bit_length "
    "removeprefix removesuffix isascii add discard".split()
)
BARRED_WORDS = set(
    "register mro elements open input law version_info with_traceback add_note attrgetter breakpoint builtins compile "
    "copyright credits delattr dir eval exec exit gc getattr globals hasattr help id importlib license locals "
    "methodcaller os quit setattr type vars sys typing enum Enum Generic Protocol ABC namedtuple dataclass".split()
)
# The last two are allowed in some places only, as classes have operators and an __eq__ (L5, L7);
# the package does without them.
BARRED_NODES = (ast.AsyncFunctionDef, ast.Global, ast.Import, ast.Div, ast.Await, ast.AugAssign, ast.GeneratorExp)
INTERFACE = {
    "errors": "ContentError Wrong TooMany BadTie TooFew Unequal Barred NoIndex NoChoice NoText NoCommand Nothing",
    "wants": "Want", "webs": "Web", "drafts": "Draft",
    "shapes": "complete line ring beside renamed moved",
    "lots": "is_row is_lots is_choice parity distance every_lots pieces odd_pieces excess",
    "lacks": "lack", "spans": "span", "grants": "grant closest",
    "worst": "is_wants is_out_of has_row least_excess worst every",
    "corners": "corner_rows charter is_charter", "widest": "widest ahead",
    "spares": "spare lean settled nearest_barred",
    "cases": "ceiling some is_tree leaves", "cells": "Cell Strip",
    "lengths": "strip_excess worst_at lengths", "floors": "openings onwards closings floors is_floors",
    "listing": "numbers choices granted_rows row_counts Choices",
    "moves": "moved_by steps_towards near_rows second_steps way is_way",
    "turns": "turned trail is_trail turn is_turn", "tables": "is_tables displeasure distances squares added",
    "best": "best is_best best_rows descent", "game": "in_turn is_keeper is_wisher allowed answers after",
    "told": "told_back parting front fronts_hold", "notation": "write_web write read_want read_web read", "desk": "Desk",
}


def trees():
    return {path.stem: ast.parse(path.read_text()) for path in FILES}


def imports(tree):
    return [node for node in tree.body if isinstance(node, ast.ImportFrom)]


def defined(tree):
    """The names that are bound at module level by anything but an import."""
    names = [node.name for node in tree.body if isinstance(node, (ast.FunctionDef, ast.ClassDef))]
    for node in tree.body:
        if isinstance(node, ast.Assign):
            names.extend(target.id for target in node.targets)
    return names


class Language(unittest.TestCase):
    def test_only_python_files(self):
        found = [path for path in FOLDER.iterdir() if path.name != "__pycache__"]
        self.assertEqual(sorted(found), FILES)
        self.assertIn(FOLDER / "__init__.py", FILES)
        for path in FILES:
            self.assertTrue(path.stem.replace("_", "").isalnum() and path.stem.islower(), path)

    def test_characters_and_sizes(self):
        for path in FILES:
            text = path.read_text()
            self.assertTrue(all(c == "\n" or " " <= c <= "~" for c in text), path)
            self.assertLessEqual(len(text.split("\n")), 400, path)
            self.assertLessEqual(max(len(row) for row in text.split("\n")), 120, path)
            for word in ("(type)", "Meta", "metaclass=", "_wall"):
                self.assertNotIn(word, text, path)
        for name, tree in trees().items():
            for node in ast.walk(tree):
                if isinstance(node, ast.FunctionDef):
                    self.assertLessEqual(node.end_lineno - node.lineno + 1, 40, (name, node.name))

    def test_imports(self):
        all_trees = trees()
        needs = {}
        for name, tree in all_trees.items():
            needs[name] = []
            for node in imports(tree):
                self.assertEqual(node.level, 0)
                package, _, module = node.module.partition(".")
                self.assertEqual(package, "contentties", name)
                needs[name].append(module)
                for alias in node.names:
                    self.assertIn(alias.name, defined(all_trees[module]), (name, alias.name))
        done = []
        while len(done) < len(needs):
            ready = [name for name in needs if name not in done and all(need in done for need in needs[name])]
            self.assertTrue(ready, "files import from each other")
            done.extend(ready)

    def test_only_plain_things_at_module_level(self):
        for name, tree in trees().items():
            self.assertIsNotNone(ast.get_docstring(tree), name)
            for node in tree.body[1:]:
                self.assertIsInstance(node, (ast.ImportFrom, ast.FunctionDef, ast.ClassDef, ast.Assign), name)
            names = defined(tree) + [alias.name for node in imports(tree) for alias in node.names]
            self.assertEqual(len(names), len(set(names)), name)

    def test_nodes(self):
        for name, tree in trees().items():
            for node in ast.walk(tree):
                self.assertNotIsInstance(node, BARRED_NODES, (name, getattr(node, "lineno", 0)))
                if isinstance(node, ast.Constant):
                    self.assertNotIsInstance(node.value, (float, complex), name)
                    if isinstance(node.value, str):
                        self.assertNotIn("%", node.value, name)
                if isinstance(node, ast.FunctionDef):
                    for decorator in node.decorator_list:
                        self.assertIn(ast.unparse(decorator), ("classmethod", "staticmethod", "property"), name)

    def test_names(self):
        own_methods = {node.name for tree in trees().values() for node in ast.walk(tree)
                       if isinstance(node, ast.FunctionDef)}
        known = set(vars(builtins))
        for name, tree in trees().items():
            for node in ast.walk(tree):
                if isinstance(node, ast.Name):
                    self.assertNotIn(node.id, BARRED_WORDS, name)
                    self.assertFalse(node.id in known - ALLOWED_BUILTINS, (name, node.id))
                    if isinstance(node.ctx, ast.Store):
                        self.assertNotIn(node.id, known, name)
                if isinstance(node, ast.arg):
                    self.assertNotIn(node.arg, known | BARRED_WORDS, name)
                if isinstance(node, (ast.FunctionDef, ast.ClassDef)):
                    self.assertNotIn(node.name, known | BARRED_WORDS, name)
                if isinstance(node, ast.Call) and isinstance(node.func, ast.Attribute):
                    self.assertIn(node.func.attr, ALLOWED_METHODS | own_methods, name)

    def test_no_parameter_or_variable_has_the_name_of_a_class_or_an_import(self):
        for name, tree in trees().items():
            taken = {alias.name for node in imports(tree) for alias in node.names}
            taken.update(node.name for node in tree.body if isinstance(node, ast.ClassDef))
            for node in ast.walk(tree):
                if isinstance(node, ast.arg):
                    self.assertNotIn(node.arg, taken, name)
                if isinstance(node, ast.Name) and isinstance(node.ctx, ast.Store):
                    self.assertNotIn(node.id, taken, name)

    def test_interface_stands_in_its_file(self):
        for name, words in INTERFACE.items():
            module = importlib.import_module(f"contentties.{name}")
            for word in words.split():
                self.assertEqual(getattr(module, word).__module__, f"contentties.{name}")


if __name__ == "__main__":
    unittest.main()

"""The form of the package: its interface as the document lists it, and rules of the language that can be seen."""

import ast
import builtins
import doctest
import importlib
import pathlib
import unittest

ROOT = pathlib.Path(__file__).resolve().parent.parent
PACKAGE = ROOT / "alikeplay"
LIBRARY = {"math": {"gcd", "isqrt"}, "heapq": {"heappop", "heappush"}}
BUILTINS = set(dir(builtins))
ALLOWED_BUILTINS = {
    "len", "range", "enumerate", "zip", "min", "max", "sum", "abs", "sorted", "reversed", "int", "str", "bool", "list",
    "tuple", "dict", "set", "isinstance", "ord", "repr", "any", "all", "divmod", "ValueError", "KeyError",
}
BARRED_NODES = (
    ast.Global, ast.AsyncFunctionDef, ast.Await, ast.Div, ast.AsyncFor, ast.AsyncWith, ast.Import, ast.Try,
)

# The functions of each file with their parameters; a class has the parameters of its `__init__`.
INTERFACE = {
    "errors": {"PlayError": None, "BadValue": "name", "BadScript": "line column words", "BadGame": "where why",
               "TooLarge": "what"},
    "whole": {"is_whole": "value", "is_between": "value low high", "floor_root": "n", "quotient": "n d",
              "rest": "n d", "cut": "n d", "wrapped": "n", "is_fraction": "value", "fraction": "n d",
              "fraction_sum": "a b", "fraction_less": "a b"},
    "dice": {"is_dice": "value", "dice_of": "seed", "drawn": "dice", "leapt": "dice n", "rolled": "dice n",
             "shuffled": "dice items", "picked": "dice weights"},
    "boxes": {"is_box": "value", "overlap": "first second", "common": "first second", "united": "first second",
              "shifted": "box dx dy", "has_point": "box x y"},
    "bodies": {"is_body": "value", "box_of": "body", "flown": "body n"},
    "spaces": {"is_space": "value", "tick": "space bounce", "momenta_behind": "space bounce contacts",
               "momentum": "space", "energy": "space", "pushed": "space name jx jy"},
    "grids": {"is_grid": "value", "sign_at": "grid column row", "cells_met": "grid box", "is_free": "grid box",
              "with_sign": "grid column row sign", "mirrored_grid": "grid", "wall_boxes": "grid"},
    "movers": {"moved": "grid box dx dy through", "stands": "grid box", "held": "grid boxes",
               "cast": "grid start end"},
    "scanning": {"scan": "text"},
    "checking": {"next_tokens": "text", "read_script": "text commands", "is_tree": "value commands"},
    "writing": {"script_text": "tree"},
    "coding": {"coded": "tree", "is_code": "value commands", "commands_of_code": "code", "heights": "code",
               "short": "code"},
    "machines": {"begun": "code", "run": "code machine budget", "answered": "machine answer",
                 "is_machine": "code value"},
    "games": {"Game": "grid kinds things", "first_state": "game seed", "is_state": "game value",
              "box_of": "game thing", "step": "game state inputs"},
    "digests": {"data_text": "data", "digest": "data"},
    "records": {"run": "game seed story", "packed_story": "story", "unpacked_story": "packed",
                "record_of": "game seed story", "first_difference": "game record", "save_text": "game state",
                "read_save": "game text"},
    "rewinds": {"Rewind": "game seed"},
    "sharing": {"Session": "game seed players me"},
    "levels": {"is_level": "value", "entries_of": "level", "changes_between": "first second",
               "with_changes": "level changes", "reversed_changes": "changes", "merged": "base mine theirs"},
    "edits": {"made": "level edit", "flooded": "grid column row"},
    "leveltexts": {"level_text": "level", "read_level": "text"},
    "editor": {"Editor": "level", "replay": "level journal"},
    "paths": {"cost_of": "grid cells", "path_of": "grid start goal", "reached": "grid start budget", "regions": "grid",
              "field_of": "grid goals", "is_field": "grid goals field", "steepest": "grid field start"},
    "pictures": {"is_picture": "value", "filled": "width height colour", "cropped": "picture box",
                 "mirrored": "picture", "flipped": "picture", "pasted": "picture x y sprite"},
    "drawing": {"is_scene": "value", "in_order": "scene", "view": "scene window ground", "top_item": "scene x y",
                "seen": "scene window", "changed_boxes": "old new", "redrawn": "view window ground scene boxes"},
    "packing": {"packed": "picture", "unpacked": "packed", "difference": "first second", "patched": "picture patch"},
}
# The methods that stand in the body of a class, with their parameters.
METHODS = {
    ("rewinds", "Rewind"): {"state": "", "story": "", "step": "inputs", "back": "count", "state_at": "tick"},
    ("sharing", "Session"): {"clock": "", "confirmed": "", "replayed": "", "advance": "keys", "hear": "player tick keys",
                             "waiting": "", "keys_at": "tick", "state": "", "digest_at": "tick"},
    ("editor", "Editor"): {"level": "", "position": "", "steps": "", "depth": "", "make": "edit", "undo": "", "redo": "",
                           "begin": "", "finish": "", "cancel": "", "journal": ""},
}


def files():
    return sorted(PACKAGE.rglob("*.py"))


def trees():
    return [(path, ast.parse(path.read_text(encoding="utf-8"))) for path in files()]


def functions(tree):
    return [node for node in ast.walk(tree) if isinstance(node, ast.FunctionDef)]


class InterfaceTests(unittest.TestCase):
    def test_names_and_parameters(self):
        for module, names in INTERFACE.items():
            tree = ast.parse((PACKAGE / f"{module}.py").read_text(encoding="utf-8"))
            found = {node.name: self.parameters(node) for node in tree.body
                     if isinstance(node, (ast.FunctionDef, ast.ClassDef))}
            for name, parameters in names.items():
                with self.subTest(module=module, name=name):
                    self.assertIn(name, found)
                    self.assertEqual(found[name], parameters)

    def test_methods(self):
        for (module, name), methods in METHODS.items():
            tree = ast.parse((PACKAGE / f"{module}.py").read_text(encoding="utf-8"))
            (found,) = [node for node in tree.body if isinstance(node, ast.ClassDef) and node.name == name]
            own = {part.name: self.names(part)[1:] for part in found.body if isinstance(part, ast.FunctionDef)}
            for method, parameters in methods.items():
                self.assertEqual(own.get(method), parameters.split(), (module, name, method))

    def test_imports(self):
        """Each name is imported from the file under which it is listed, and defined there."""
        for module, names in INTERFACE.items():
            found = importlib.import_module(f"alikeplay.{module}")
            for name in names:
                self.assertEqual(getattr(found, name).__module__, f"alikeplay.{module}", name)

    def parameters(self, node):
        if isinstance(node, ast.ClassDef):
            own = [part for part in node.body if isinstance(part, ast.FunctionDef) and part.name == "__init__"]
            return " ".join(self.names(own[0])[1:]) if own else None
        return " ".join(self.names(node))

    def names(self, node):
        return [part.arg for part in node.args.args + node.args.kwonlyargs]


class ReadmeTests(unittest.TestCase):
    def test_examples(self):
        text = (ROOT / "README.md").read_text(encoding="utf-8").replace("```", "")
        examples = doctest.DocTestParser().get_doctest(text, {}, "README", "README.md", 0)
        found = doctest.DocTestRunner().run(examples)
        self.assertGreater(found.attempted, 0)
        self.assertEqual(found.failed, 0)


class FormTests(unittest.TestCase):
    def test_only_python_files(self):
        for path in PACKAGE.rglob("*"):
            if "__pycache__" not in path.parts and path.is_file():
                self.assertEqual(path.suffix, ".py", path)
        self.assertTrue((PACKAGE / "__init__.py").is_file())

    def test_characters_and_sizes(self):
        for path in files():
            text = path.read_text(encoding="utf-8")
            self.assertTrue(all(sign == "\n" or " " <= sign <= "~" for sign in text), path)
            lines = text.splitlines()
            self.assertLessEqual(len(lines), 399, path)
            self.assertLessEqual(max(map(len, lines)), 120, path)

    def test_functions_are_small(self):
        for path, tree in trees():
            for node in functions(tree):
                self.assertLessEqual(node.end_lineno - node.lineno + 1, 40, (path, node.name))
                self.assertEqual(node.decorator_list, [], (path, node.name))

    def test_imports(self):
        modules = {f"alikeplay.{path.stem}" for path in files()}
        for path, tree in trees():
            for node in ast.walk(tree):
                if isinstance(node, ast.ImportFrom):
                    self.assertEqual(node.level, 0, path)
                    self.assertTrue(all(name.asname is None for name in node.names), path)
                    names = {name.name for name in node.names}
                    self.assertTrue(node.module in modules or names <= LIBRARY.get(node.module, set()), path)

    def test_no_barred_statements_and_values(self):
        for path, tree in trees():
            for node in ast.walk(tree):
                self.assertNotIsInstance(node, BARRED_NODES, (path, getattr(node, "lineno", 0)))
                if isinstance(node, ast.Constant):
                    self.assertNotIsInstance(node.value, (float, complex, bytes), (path, node.lineno))
                    self.assertFalse(isinstance(node.value, str) and "%" in node.value, (path, node.lineno))

    def test_names(self):
        for path, tree in trees():
            for node in ast.walk(tree):
                if isinstance(node, ast.Name) and isinstance(node.ctx, ast.Load) and node.id in BUILTINS:
                    self.assertIn(node.id, ALLOWED_BUILTINS, (path, node.lineno))
                if isinstance(node, ast.Name) and isinstance(node.ctx, ast.Store):
                    self.assertNotIn(node.id, BUILTINS, (path, node.lineno))
                if isinstance(node, ast.arg):
                    self.assertNotIn(node.arg, BUILTINS, (path, node.lineno))
            for node in functions(tree):
                self.assertTrue(node.name == "__init__" or node.name not in BUILTINS, (path, node.name))

    def test_no_local_name_hides_an_import(self):
        for path, tree in trees():
            imported = {name.name for node in tree.body if isinstance(node, ast.ImportFrom) for name in node.names}
            classes = {node.name for node in tree.body if isinstance(node, ast.ClassDef)}
            for node in functions(tree):
                local = {part.id for part in ast.walk(node)
                         if isinstance(part, ast.Name) and isinstance(part.ctx, ast.Store)}
                local |= {part.arg for part in ast.walk(node) if isinstance(part, ast.arg)}
                self.assertEqual(local & (imported | classes), set(), (path, node.name))


if __name__ == "__main__":
    unittest.main()

"""The interface as a whole, the README's examples, and what of ../shared/LANGUAGE.md is easily seen."""

import ast
import doctest
import importlib
import inspect
import pathlib
import unittest

ROOT = pathlib.Path(__file__).resolve().parent.parent
FILES = sorted((ROOT / "mistgrid").rglob("*.py"))

INTERFACE = {
    "errors": {
        "MistError": None, "NoLevel": None, "NoWorld": None, "NoDesk": None,
        "NoText": ["row"], "Unsafe": ["keys_told"], "Tells": ["person", "secrets"],
    },
    "ladders": {
        "is_ladder": ["thing"], "is_value": ["ladder", "thing"], "levels_of": ["ladder"],
        "coarse": ["ladder", "value", "level"],
    },
    "tables": {
        "is_table": ["thing"], "is_rule": ["thing"], "beneath": ["one", "other"],
        "groups_of": ["table", "levels"], "failing": ["table", "levels", "rule"],
        "is_safe": ["table", "levels", "rule"],
    },
    "texts": {
        "show_table": ["table"], "read_table": ["text"], "show_release": ["release"],
        "read_release": ["ladders", "text"],
    },
    "border": {"border_of": ["table", "rule"], "border_holds": ["table", "rule", "border"]},
    "losses": {
        "loss_of": ["table", "levels", "rule", "costs", "out"],
        "bound_of": ["table", "rule", "costs", "box", "out"],
        "least_loss": ["table", "rule", "costs", "out"],
        "loss_paper": ["table", "rule", "costs", "out"],
        "paper_holds": ["table", "rule", "costs", "told", "paper", "out"],
    },
    "releases": {"release_of": ["table", "levels", "rule"], "is_release": ["ladders", "thing"]},
    "worlds": {
        "is_roll": ["thing"], "fits": ["roll", "world", "releases"], "may_have": ["roll", "releases"],
    },
    "trees": {
        "world_or_tree": ["roll", "releases", "person", "secret"],
        "tree_holds": ["roll", "releases", "person", "secret", "tree"],
    },
    "desk": {"Desk": ["table", "names", "kinds", "rule"]},
}
METHODS = {
    "ask": ["levels"], "given": [], "may_know": [], "asked": [], "refused": [], "is_asking": [],
    "open_now": [], "roll": [],
}
# Those behind a star, by name alone, with what they are where they are left out.
BEHIND_A_STAR = {("losses", "out"): 50, ("desk", "rule"): (2, 2, 0)}

# L8, less what only __main__.py or a later need of the program may use.
BUILTINS = """len range enumerate zip min max sum abs sorted reversed int str bool list tuple dict set
    isinstance ord repr any all divmod iter next map type super ValueError TypeError KeyError
    IndexError LookupError""".split()


class Interface(unittest.TestCase):
    def test_all_names_stand_in_their_files_with_their_arguments(self):
        for file, names in INTERFACE.items():
            module = importlib.import_module("mistgrid." + file)
            for name, arguments in names.items():
                thing = getattr(module, name)
                self.assertEqual(thing.__module__, "mistgrid." + file, name)
                if arguments is not None:
                    self.assertEqual(list(inspect.signature(thing).parameters), arguments, name)

    def test_only_those_behind_a_star_are_by_name_alone_and_may_be_left_out(self):
        for file, names in INTERFACE.items():
            for name, arguments in names.items():
                if arguments is None:
                    continue
                thing = getattr(importlib.import_module("mistgrid." + file), name)
                for part in inspect.signature(thing).parameters.values():
                    starred = (file, part.name) in BEHIND_A_STAR
                    self.assertEqual(part.kind is part.KEYWORD_ONLY, starred, (name, part))
                    self.assertEqual(part.kind is part.POSITIONAL_OR_KEYWORD, not starred, (name, part))
                    self.assertEqual(part.default, BEHIND_A_STAR.get((file, part.name), part.empty), name)

    def test_the_methods_of_the_desk_are_its_own(self):
        desk = importlib.import_module("mistgrid.desk").Desk
        for name, arguments in METHODS.items():
            self.assertIn(name, vars(desk))
            parts = list(inspect.signature(vars(desk)[name]).parameters.values())
            self.assertEqual([part.name for part in parts[1:]], arguments)
            for part in parts:
                self.assertIs(part.kind, part.POSITIONAL_OR_KEYWORD)
                self.assertIs(part.default, part.empty)

    def test_plain_values(self):
        self.assertEqual(importlib.import_module("mistgrid.losses").OUT, 50)
        self.assertEqual(importlib.import_module("mistgrid.desk").RULE, (2, 2, 0))


class Readme(unittest.TestCase):
    def test_the_examples(self):
        told = doctest.testfile(str(ROOT / "README.md"), module_relative=False)
        self.assertGreater(told.attempted, 0)
        self.assertEqual(told.failed, 0)


class Language(unittest.TestCase):
    def test_the_folder_holds_only_sources(self):
        for path in (ROOT / "mistgrid").rglob("*"):
            if "__pycache__" not in path.parts:
                self.assertTrue(path.is_dir() or path.suffix == ".py", path)
        self.assertIn(ROOT / "mistgrid" / "__init__.py", FILES)

    def test_signs_and_sizes(self):
        for path in FILES:
            lines = path.read_text(encoding="ascii").split("\n")
            self.assertLessEqual(len(lines) - 1, 399, path)
            for line in lines:
                self.assertLessEqual(len(line), 120, (path, line))
                self.assertTrue(all(" " <= sign <= "~" for sign in line), (path, line))

    def test_functions_of_at_most_forty_lines_and_undecorated(self):
        for path in FILES:
            for node in ast.walk(ast.parse(path.read_text())):
                if isinstance(node, (ast.FunctionDef, ast.ClassDef)):
                    self.assertEqual(node.decorator_list, [], (path, node.name))
                if isinstance(node, ast.FunctionDef):
                    self.assertLessEqual(node.end_lineno - node.lineno + 1, 40, (path, node.name))

    def test_imports_are_from_the_files_of_the_package(self):
        for path in FILES:
            for node in ast.walk(ast.parse(path.read_text())):
                self.assertNotIsInstance(node, ast.Import, path)
                if isinstance(node, ast.ImportFrom):
                    file = ROOT / (node.module.replace(".", "/") + ".py")
                    self.assertIn(file, FILES, path)
                    body = ast.parse(file.read_text()).body
                    names = [part.name for part in body
                             if isinstance(part, (ast.FunctionDef, ast.ClassDef))]
                    names.extend(part.targets[0].id for part in body if isinstance(part, ast.Assign))
                    for alias in node.names:
                        self.assertIn(alias.name, names, path)
                        self.assertIsNone(alias.asname, path)

    def test_only_allowed_builtins_and_no_floats(self):
        known = set(dir(__builtins__) if not isinstance(__builtins__, dict) else __builtins__)
        for path in FILES:
            for node in ast.walk(ast.parse(path.read_text())):
                if isinstance(node, ast.Name) and node.id in known:
                    self.assertIn(node.id, BUILTINS, path)
                self.assertNotIsInstance(node, ast.Div, path)
                if isinstance(node, ast.Constant):
                    self.assertNotIsInstance(node.value, (float, complex), path)


if __name__ == "__main__":
    unittest.main()

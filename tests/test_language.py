"""The rules of the language that can be read off the files without running them."""

import ast
import pathlib
import re
import unittest

PACKAGE = pathlib.Path(__file__).resolve().parent.parent / "everstock"
FILES = sorted(path for path in PACKAGE.rglob("*") if "__pycache__" not in path.parts)
FROM_THE_LIBRARY = ("heapq", "math", "itertools", "collections")
BUILTINS = set(
    "len range enumerate zip min max sum abs sorted reversed int str bool bytes list tuple dict set"
    " frozenset isinstance ord repr any all divmod pow iter next map type super".split()
)
UNUSED_WORDS = ("law", "open", "input", "register", "elements", "type", "enum", "eval", "exec")


def trees():
    for path in FILES:
        if path.suffix == ".py":
            yield path, ast.parse(path.read_text(encoding="utf-8"))


def functions(tree):
    return [node for node in ast.walk(tree) if isinstance(node, ast.FunctionDef)]


class TheLanguage(unittest.TestCase):
    def test_there_are_files_of_python_alone(self):
        self.assertIn(PACKAGE / "__init__.py", FILES)
        for path in FILES:
            self.assertTrue(path.is_dir() or re.fullmatch(r"[a-z0-9_]+\.py", path.name), path)
            self.assertNotRegex(path.name, "^(law_|test|site|conftest)")

    def test_sizes_and_characters(self):
        for path, tree in trees():
            lines = path.read_text(encoding="utf-8").split("\n")
            self.assertLessEqual(len(lines), 400, path)
            for line in lines:
                self.assertLessEqual(len(line), 120, path)
                self.assertTrue(all(" " <= sign <= "~" for sign in line), (path, line))
            for function in functions(tree):
                self.assertLessEqual(function.end_lineno - function.lineno + 1, 40, function.name)

    def test_imports(self):
        for path, tree in trees():
            for node in ast.walk(tree):
                self.assertNotIsInstance(node, ast.Import, path)
                if isinstance(node, ast.ImportFrom):
                    self.assertEqual(node.level, 0)
                    top = node.module.split(".")[0]
                    self.assertIn(top, ("everstock",) + FROM_THE_LIBRARY, path)
                    self.assertNotIn("*", [name.name for name in node.names])

    def test_no_floats_no_division_no_global_and_no_decorators(self):
        barred = (ast.Div, ast.AsyncFunctionDef, ast.Await, ast.Global)
        for path, tree in trees():
            for node in ast.walk(tree):
                self.assertNotIsInstance(node, barred, path)
                if isinstance(node, ast.Constant):
                    self.assertNotIsInstance(node.value, (float, complex), path)
            for function in functions(tree):
                self.assertEqual(function.decorator_list, [], function.name)

    def test_module_level_holds_plain_things(self):
        plain = (ast.FunctionDef, ast.ClassDef, ast.ImportFrom, ast.Assign)
        for path, tree in trees():
            for at, node in enumerate(tree.body):
                docstring = at == 0 and isinstance(node, ast.Expr)
                self.assertTrue(docstring or isinstance(node, plain), (path, node.lineno))

    def test_no_name_of_a_builtin_and_no_barred_word(self):
        for path, tree in trees():
            for node in ast.walk(tree):
                if isinstance(node, ast.Name):
                    if isinstance(node.ctx, ast.Store):
                        self.assertNotIn(node.id, BUILTINS, path)
                        self.assertNotIn(node.id, UNUSED_WORDS, path)
                elif isinstance(node, ast.arg):
                    self.assertNotIn(node.arg, BUILTINS, path)
                    self.assertNotIn(node.arg, UNUSED_WORDS, path)

    def test_all_of_the_interface_is_defined_in_its_file(self):
        for name, defined in (
            ("errors", "StockError NoAsk NoKind NoName Taken Full NoHouse NoStore NoWay NoSpare"
                       " NoGuide NoBook NoRound"),
            ("houses", "is_house is_store leads covers"),
            ("asks", "lasts least"),
            ("boxes", "least_within how_many above"),
            ("fates", "time life keep book"),
            ("keeps", "is_keep is_guide guide guided"),
            ("books", "is_book played"),
            ("rounds", "is_round is_wear round_or_wear worn_by rounds share shares Rounder"),
            ("joining", "together beside times"),
            ("hands", "Hand"),
            ("shelf", "Shelf"),
            ("plans", "is_plan is_stand plan_of leads_on least_there within_there lasts_there time_there life_there"),
            ("roads", "keep_there guide_there book_there is_keep_there is_guide_there is_book_there"
                      " guided_there played_there"),
        ):
            tree = ast.parse((PACKAGE / (name + ".py")).read_text(encoding="utf-8"))
            there = [node.name for node in tree.body if isinstance(node, (ast.FunctionDef, ast.ClassDef))]
            for word in defined.split():
                self.assertIn(word, there)

    def test_all_methods_of_the_interface_stand_in_their_class(self):
        for name, told, defined in (
            ("rounds", "Rounder", "__init__ meet store"),
            ("hands", "Hand", "__init__ meet bring take add drop undo store house life met spare fork"),
            ("shelf", "Shelf", "__init__ put drop meet lend undo names store house life lendable __eq__"),
        ):
            tree = ast.parse((PACKAGE / (name + ".py")).read_text(encoding="utf-8"))
            told = [node for node in tree.body if isinstance(node, ast.ClassDef) and node.name == told][0]
            there = [node.name for node in told.body if isinstance(node, ast.FunctionDef)]
            for word in defined.split():
                self.assertIn(word, there)

    def test_no_two_files_import_from_each_other(self):
        imports = {
            path.stem: [node.module.split(".")[1] for node in ast.walk(tree)
                        if isinstance(node, ast.ImportFrom) and node.module.startswith("everstock.")]
            for path, tree in trees()
        }
        while imports:
            free = [name for name, its in imports.items() if not any(one in imports for one in its)]
            self.assertTrue(free, imports)
            imports = {name: its for name, its in imports.items() if name not in free}


if __name__ == "__main__":
    unittest.main()

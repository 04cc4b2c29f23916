"""The interface's names and arguments, and the rules of form that can be checked by reading the files."""

import ast
import unittest
from pathlib import Path

FOLDER = Path(__file__).resolve().parent.parent / "pairedparts"
FILES = sorted(path for path in FOLDER.rglob("*") if path.is_file() and "__pycache__" not in path.parts)

FUNCTIONS = {
    "partitions": {
        "is_partition": ["value"], "partitions": ["number"], "count": ["number"], "mirrored": ["partition"],
    },
    "pairing": {
        "is_odd": ["partition"], "is_different": ["partition"], "to_different": ["partition"], "to_odd": ["partition"],
    },
    "cancelling": {"partner": ["partition"], "alone": ["number"], "surplus": ["number"]},
    "squares": {
        "is_own_mirror": ["partition"], "hooks": ["partition"], "from_hooks": ["partition"], "side": ["partition"],
        "split": ["partition"], "joined": ["value"],
    },
    "apart": {
        "keeps_apart": ["partition"], "count_apart": ["number", "least"], "rank": ["partition"],
        "rank_counts": ["number", "divisor"],
    },
    "formatting": {"format_partition": ["partition"], "parse_partition": ["text"]},
}

METHODS = {
    "__init__": ["self", "partition"], "put": ["self", "part"], "take": ["self", "part"], "mirror": ["self"],
    "partition": ["self"], "path": ["self"], "undo": ["self"], "duplicate": ["self"],
    "__len__": ["self"], "__str__": ["self"], "__eq__": ["self", "other"],
}

ERRORS = [
    "PartError", "InvalidPartition", "InvalidNumber", "NotOdd", "NotDifferent", "NoPartner", "NotOwnMirror",
    "InvalidSplit", "NoRank", "TooLarge", "NotThere", "NothingToUndo", "ParseError",
]

BUILTINS = {
    "len", "range", "enumerate", "zip", "min", "max", "sum", "abs", "sorted", "reversed", "int", "str", "bool",
    "list", "tuple", "dict", "set", "isinstance", "ord", "repr", "any", "all", "divmod", "iter", "next", "map",
    "Exception", "ValueError", "TypeError", "KeyError", "IndexError", "LookupError", "NotImplemented",
}

NOT_ALLOWED = (ast.AsyncFunctionDef, ast.AsyncFor, ast.AsyncWith, ast.Await, ast.Import, ast.Div, ast.MatMult)


def tree(path):
    return ast.parse(path.read_text(encoding="ascii"))


def bound_names(node):
    """Return the names that the file gives a meaning to."""
    names = set()
    for part in ast.walk(node):
        if isinstance(part, (ast.FunctionDef, ast.ClassDef)):
            names.add(part.name)
        elif isinstance(part, ast.arg):
            names.add(part.arg)
        elif isinstance(part, ast.Name) and isinstance(part.ctx, ast.Store):
            names.add(part.id)
        elif isinstance(part, ast.ImportFrom):
            names.update(alias.asname or alias.name for alias in part.names)
    return names


def imported_files(node):
    return {part.module for part in ast.walk(node) if isinstance(part, ast.ImportFrom)}


class InterfaceTest(unittest.TestCase):
    def test_each_function_is_defined_in_its_file_with_its_arguments(self):
        for file, functions in FUNCTIONS.items():
            defined = {
                part.name: part for part in tree(FOLDER / f"{file}.py").body if isinstance(part, ast.FunctionDef)
            }
            for name, arguments in functions.items():
                with self.subTest(file=file, name=name):
                    self.assertEqual([given.arg for given in defined[name].args.args], arguments)

    def test_each_method_is_defined_in_the_class_itself_with_its_arguments(self):
        [changer] = [part for part in tree(FOLDER / "changer.py").body if isinstance(part, ast.ClassDef)]
        self.assertEqual(changer.name, "Changer")
        defined = {part.name: part for part in changer.body if isinstance(part, ast.FunctionDef)}
        for name, arguments in METHODS.items():
            with self.subTest(name=name):
                self.assertEqual([given.arg for given in defined[name].args.args], arguments)

    def test_each_error_is_defined_in_errors(self):
        defined = [part.name for part in tree(FOLDER / "errors.py").body if isinstance(part, ast.ClassDef)]
        self.assertEqual(sorted(defined), sorted(ERRORS))


class FormTest(unittest.TestCase):
    def test_the_folder_holds_python_files_only(self):
        self.assertIn(FOLDER / "__init__.py", FILES)
        for path in FILES:
            with self.subTest(path=path.name):
                self.assertRegex(path.name, r"^[a-z0-9_]+\.py$")

    def test_characters_and_sizes(self):
        for path in FILES:
            text = path.read_bytes().decode("ascii")
            with self.subTest(path=path.name):
                self.assertTrue(all(sign == "\n" or " " <= sign <= "~" for sign in text))
                self.assertLessEqual(len(text.splitlines()), 399)
                self.assertLessEqual(max(len(line) for line in text.splitlines()), 120)

    def test_functions_have_at_most_40_lines(self):
        for path in FILES:
            for part in ast.walk(tree(path)):
                if isinstance(part, ast.FunctionDef):
                    with self.subTest(path=path.name, name=part.name):
                        self.assertLessEqual(part.end_lineno - part.lineno + 1, 40)

    def test_imports_come_from_the_package_and_never_in_a_circle(self):
        wanted = {f"pairedparts.{path.stem}": imported_files(tree(path)) for path in FILES if path.stem != "__init__"}
        for name, others in wanted.items():
            with self.subTest(name=name):
                self.assertLessEqual(others, set(wanted))
        left = dict(wanted)
        while left:
            free = [name for name, others in left.items() if not others & set(left)]
            self.assertTrue(free, "files that import from each other")
            for name in free:
                del left[name]

    def test_statements_values_and_builtins(self):
        for path in FILES:
            node = tree(path)
            known = bound_names(node)
            self.assertEqual(known & BUILTINS, set())
            for part in ast.walk(node):
                with self.subTest(path=path.name, line=getattr(part, "lineno", 0)):
                    self.assertNotIsInstance(part, NOT_ALLOWED)
                    if isinstance(part, ast.Constant):
                        self.assertNotIsInstance(part.value, (float, complex))
                    if isinstance(part, ast.Name):
                        self.assertIn(part.id, known | BUILTINS)


if __name__ == "__main__":
    unittest.main()

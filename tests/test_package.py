"""Point 1, as the package's files show it, and where the interface's names are defined."""

import ast
import importlib
import unittest
from pathlib import Path

PACKAGE = Path(__file__).resolve().parent.parent / "rootpeg"

LISTED = {
    "errors": ("PegError", "NoPart", "NoRow", "NoStretch", "NotAlone", "NoQuotient"),
    "parts": ("part", "below", "part_sum", "part_product"),
    "rows": ("sign_at", "plain"),
    "stretches": ("turns",),
    "pegs": ("peg", "of_part", "narrowed", "compare", "sign_of_peg"),
    "sums": ("added", "taken", "times", "divided", "opposite"),
    "roots": ("roots",),
}


def trees():
    """Each file of the package with its syntax tree."""
    return [(path.name, ast.parse(path.read_text("utf-8"))) for path in sorted(PACKAGE.rglob("*.py"))]


class Package(unittest.TestCase):
    def test_names_are_defined_where_they_are_listed(self):
        for name, words in LISTED.items():
            tree = ast.parse((PACKAGE / f"{name}.py").read_text("utf-8"))
            defined = [node.name for node in tree.body if isinstance(node, (ast.FunctionDef, ast.ClassDef))]
            module = importlib.import_module(f"rootpeg.{name}")
            for word in words:
                self.assertIn(word, defined)
                self.assertEqual(getattr(module, word).__module__, f"rootpeg.{name}")

    def test_nothing_from_outside_but_whole_numbers(self):
        # So no clock, no chance and no network; files are reached by a builtin too, see below.
        for name, tree in trees():
            for node in ast.walk(tree):
                self.assertNotIsInstance(node, ast.Import, name)
                if isinstance(node, ast.ImportFrom) and not node.module.startswith("rootpeg."):
                    self.assertEqual(node.module, "math", name)
                    self.assertLessEqual({alias.name for alias in node.names}, {"comb", "gcd", "lcm"}, name)

    def test_no_files(self):
        for name, tree in trees():
            names = {node.id for node in ast.walk(tree) if isinstance(node, ast.Name)}
            self.assertFalse(names & {"open", "input", "print", "eval", "exec", "__import__", "hash", "id"}, name)

    def test_whole_numbers_only(self):
        for name, tree in trees():
            for node in ast.walk(tree):
                self.assertNotIsInstance(node, ast.Div, name)
                self.assertFalse(isinstance(node, ast.Name) and node.id in ("float", "complex", "round"), name)
                self.assertFalse(isinstance(node, ast.Constant) and isinstance(node.value, (float, complex)), name)

    def test_the_folder_holds_python_files_only(self):
        for path in PACKAGE.iterdir():
            self.assertTrue(path.suffix == ".py" or path.name == "__pycache__", path.name)

    def test_sizes(self):
        for path in PACKAGE.glob("*.py"):
            lines = path.read_text("ascii").split("\n")
            self.assertLess(len(lines), 400)
            self.assertLessEqual(max(len(line) for line in lines), 120)
        for name, tree in trees():
            for node in ast.walk(tree):
                if isinstance(node, ast.FunctionDef):
                    self.assertLessEqual(node.end_lineno - node.lineno, 39, f"{name} {node.name}")


if __name__ == "__main__":
    unittest.main()

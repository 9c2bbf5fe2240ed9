"""Some rules of the language subset that the source of the package must keep, told by their numbers."""

import ast
import builtins
import re
import unittest
from pathlib import Path

import crosskeep

PACKAGE = Path(crosskeep.__file__).parent
FILES = sorted(path for path in PACKAGE.rglob("*") if path.is_file() and "__pycache__" not in path.parts)
LIBRARY = {"heapq", "math", "itertools", "collections", "__future__"}
BUILTINS = {name for name in dir(builtins) if not name.startswith("_")}
USED = set(
    "len range enumerate zip min max sum abs sorted reversed int str bool list tuple dict set isinstance ord repr any"
    " all divmod pow iter next property staticmethod classmethod super object ValueError KeyError".split()
)
NODES = (
    ast.AsyncFunctionDef, ast.Global, ast.Await, ast.Import, ast.Div, ast.TryStar, ast.AsyncFor, ast.AsyncWith,
)


class Source(unittest.TestCase):
    def each_file(self):
        for path in FILES:
            text = path.read_text(encoding="utf-8")
            yield path.relative_to(PACKAGE), text, ast.parse(text)

    def each_node(self):
        for name, _, tree in self.each_file():
            for node in ast.walk(tree):
                yield f"{name}:{getattr(node, 'lineno', 0)}", node

    def test_files_and_folders(self):
        self.assertTrue(FILES)
        self.assertLessEqual(len(FILES), 100, "L14")
        for path in FILES:
            self.assertRegex(path.name, r"^[a-z0-9_]+\.py$", "L1")
            self.assertTrue((path.parent / "__init__.py").is_file(), f"L14 {path}")
            self.assertFalse(path.with_suffix("").is_dir(), f"L14 {path}")

    def test_lines_and_characters(self):
        for name, text, _ in self.each_file():
            self.assertLessEqual(len(text.split("\n")), 400, f"L10 {name}")
            for place, line in enumerate(text.split("\n"), 1):
                self.assertLessEqual(len(line), 120, f"L10 {name}:{place}")
                self.assertRegex(line, r"^[ -~]*$", f"L14 {name}:{place}")

    def test_functions(self):
        for where, node in self.each_node():
            if isinstance(node, ast.FunctionDef):
                self.assertLessEqual(node.end_lineno - node.lineno + 1, 40, f"L10 {where}")

    def test_strings(self):
        for where, node in self.each_node():
            if isinstance(node, ast.Constant) and isinstance(node.value, str):
                self.assertNotIn(chr(37), node.value, f"L27 {where}")
                self.assertIsNone(re.search(r"\._+$|^__.*__$", node.value), f"L27 {where}")
            self.assertFalse(isinstance(node, ast.Constant) and isinstance(node.value, float), f"L7 {where}")

    def test_imports_and_statements(self):
        for where, node in self.each_node():
            self.assertNotIsInstance(node, NODES, where)
            if isinstance(node, ast.ImportFrom):
                self.assertEqual(node.level, 0, f"L2 {where}")
                self.assertIn(node.module.split(".")[0], LIBRARY | {"crosskeep"}, f"L2 {where}")
                self.assertTrue(all(alias.name != "*" for alias in node.names), f"L2 {where}")

    def test_builtins(self):
        for where, node in self.each_node():
            if isinstance(node, ast.Name) and isinstance(node.ctx, ast.Load):
                self.assertNotIn(node.id, BUILTINS - USED, f"L8 {where}")
            bound = node.arg if isinstance(node, ast.arg) else getattr(node, "name", None)
            if isinstance(node, ast.Name) and isinstance(node.ctx, ast.Store):
                bound = node.id
            if not isinstance(node, ast.alias):
                self.assertNotIn(bound, BUILTINS, f"L8, L15 {where}")

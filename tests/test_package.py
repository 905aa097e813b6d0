"""The form of the package: its interface and the rules that a test can see at a glance."""

import ast
import importlib
import pathlib
import re
import unittest

from rowdominoes.endless import EndlessRow, Wave
from rowdominoes.live import LiveRow
from rowdominoes.rows import Row
from rowdominoes.watching import HeightObserver, PushObserver

PACKAGE = pathlib.Path(__file__).resolve().parent.parent / "rowdominoes"
FILES = sorted(PACKAGE.glob("*.py"))
INTERFACE = {
    "rowdominoes.errors": ("StoneError", "InvalidRow", "UnknownStone", "InvalidSide", "InvalidNumber", "AlreadyFallen",
                           "OtherRow", "AlreadyOpen", "NotStanding", "NotLying", "InvalidOperation", "Contradiction",
                           "NotationError", "InvalidCount", "DecodeError"),
    "rowdominoes.rows": ("Row",),
    "rowdominoes.runs": ("fall_ticks", "greatest_runs", "fewest_to_side", "spared_without", "falls_by",
                         "fewest_pushes", "first_unlike_push"),
    "rowdominoes.cutting": ("fewest_taken", "least_height", "least_heights", "safe_growth"),
    "rowdominoes.endless": ("EndlessRow", "Wave", "repeating_ticks"),
    "rowdominoes.live": ("LiveRow",),
    "rowdominoes.watching": ("HeightObserver", "PushObserver"),
    "rowdominoes.notation": ("format_row", "parse_row", "chart"),
    "rowdominoes.codec": ("pack_bytes", "unpack_bytes", "encode_row", "decode_row"),
}
ROW = ("even", "stones", "places", "MAX_STONES", "without", "with_height", "__len__", "__getitem__", "__contains__",
       "__add__", "__rshift__", "__invert__", "__eq__", "__call__", "__iter__")
LIVE_ROW = ("push", "lift", "take", "standing", "lying", "history", "undo", "redo", "apply", "replay",
            "standing_after", "__contains__", "__len__", "__enter__", "__exit__")
HEIGHT_OBSERVER = ("see_run", "height_range", "observations", "telling_pushes")
PUSH_OBSERVER = ("see_stone", "see_tick", "from_log", "candidates", "observations", "best_stone", "__contains__",
                 "__len__")
METHODS = (
    (Row, ROW),
    (EndlessRow, ("row", "period", "wave")),
    (Wave, ("is_endless", "last_fallen", "count_after", "tick_of")),
    (LiveRow, LIVE_ROW),
    (HeightObserver, HEIGHT_OBSERVER),
    (PushObserver, PUSH_OBSERVER),
)
LIBRARY = ("heapq", "math", "itertools", "collections")


class PackageTest(unittest.TestCase):

    def test_interface_is_defined_where_it_is_listed(self):
        for module, names in INTERFACE.items():
            for name in names:
                self.assertEqual(getattr(importlib.import_module(module), name).__module__, module)

    def test_methods_are_defined_in_the_class_itself(self):
        for owner, names in METHODS:
            for name in names:
                self.assertIn(name, vars(owner))

    def test_folder_holds_plain_files_only(self):
        names = [path.name for path in PACKAGE.iterdir() if path.name != "__pycache__"]
        self.assertIn("__init__.py", names)
        for name in names:
            self.assertRegex(name, r"^[a-z0-9_]+\.py$")

    def test_characters_and_sizes(self):
        for path in FILES:
            text = path.read_text(encoding="utf-8")
            with self.subTest(path=path.name):
                self.assertIsNone(re.search(r"[^\n -~]", text))
                self.assertLessEqual(len(text.splitlines()), 399)
                self.assertLessEqual(max(map(len, text.splitlines())), 120)
                for node in ast.walk(ast.parse(text)):
                    if isinstance(node, ast.FunctionDef):
                        self.assertLessEqual(node.end_lineno - node.lineno + 1, 40)

    def test_imports(self):
        for path in FILES:
            for node in ast.walk(ast.parse(path.read_text(encoding="utf-8"))):
                with self.subTest(path=path.name):
                    self.assertNotIsInstance(node, ast.Import)
                    if isinstance(node, ast.ImportFrom):
                        self.assertEqual(node.level, 0)
                        self.assertIn(node.module.split(".")[0], ("rowdominoes",) + LIBRARY)

    def test_signs_and_strings(self):
        for path in FILES:
            for node in ast.walk(ast.parse(path.read_text(encoding="utf-8"))):
                with self.subTest(path=path.name, line=getattr(node, "lineno", None)):
                    if isinstance(node, ast.BinOp):
                        self.assertNotIsInstance(node.op, ast.Div)
                        if isinstance(node.op, ast.Mod):
                            self.assertIsInstance(node.left, ast.Call)
                            self.assertIn(node.left.func.id, ("int", "len"))
                    if isinstance(node, ast.Constant):
                        self.assertNotIsInstance(node.value, float)
                        self.assertNotIn("%", str(node.value))


if __name__ == "__main__":
    unittest.main()

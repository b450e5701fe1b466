"""What holds for the package as a whole: its interface, and that it imports, reads and prints nothing."""

import ast
import builtins
import inspect
import pathlib
import unittest

import movingblocks
from movingblocks import blocks

FOLDER = pathlib.Path(movingblocks.__file__).parent

INTERFACE = {
    "distance": ["a_row", "b_row", "a", "b"],
    "find": ["block", "window"],
    "least": ["n", "l"],
    "between": ["across", "down", "a"],
    "mean": ["a", "b"],
    "bright": ["by", "a"],
    "rest": ["a", "b"],
    "mend": ["a", "rest"],
    "scale": ["by", "a"],
    "sum_of": ["a", "b"],
    "less": ["a", "b"],
    "narrow": ["a"],
    "scale8": ["a", "by"],
    "narrow8": ["a", "b"],
    "points16": ["a", "b"],
    "least8": ["a"],
}

# Of Python's own names those that neither read nor print nor reach other modules.
HARMLESS = (
    "len", "range", "enumerate", "zip", "min", "max", "sum", "abs", "sorted", "reversed", "int", "str", "bool",
    "list", "tuple", "dict", "isinstance", "any", "all", "divmod",
)


def trees():
    """Each file of the package with its syntax tree."""
    return [(path, ast.parse(path.read_text("utf-8"))) for path in sorted(FOLDER.rglob("*.py"))]


class Interface(unittest.TestCase):

    def test_names_and_arguments(self):
        self.assertEqual(len(INTERFACE), 16)
        for name, arguments in INTERFACE.items():
            parameters = inspect.signature(getattr(blocks, name)).parameters
            self.assertEqual(list(parameters), arguments)
            for parameter in parameters.values():
                self.assertIs(parameter.default, inspect.Parameter.empty)

    def test_arguments_by_name(self):
        self.assertEqual(blocks.distance(a_row=16, b_row=16, a=[1] * 256, b=[2] * 256), [256])
        self.assertEqual(blocks.find(block=[1] * 256, window=[1] * 2304), [0, 0])
        self.assertEqual(blocks.least(n=2, l=[6, 5]), [1, 5])
        self.assertEqual(blocks.between(across=0, down=1, a=([4] * 17 + [8] * 17) * 8 + [4] * 17), [0] + [6] * 256)
        self.assertEqual(blocks.mean(a=[4] * 256, b=[8] * 256), [0] + [6] * 256)
        self.assertEqual(blocks.bright(by=3, a=[4] * 256), [0] + [7] * 256)
        self.assertEqual(blocks.rest(a=[4] * 256, b=[9] * 256), [0] + [-5] * 256)
        self.assertEqual(blocks.mend(a=[4] * 256, rest=[9] * 256), [0] + [13] * 256)
        self.assertEqual(blocks.scale(by=-16384, a=[4] * 256), [0] + [-2] * 256)
        self.assertEqual(blocks.sum_of(a=[4] * 256, b=[9] * 256), [0] + [13] * 256)
        self.assertEqual(blocks.less(a=[4] * 256, b=[9] * 256), [0] + [-5] * 256)
        self.assertEqual(blocks.narrow(a=[65536] * 256), [0] + [32767] * 256)
        self.assertEqual(blocks.scale8(a=[4] * 8, by=[-16384] * 8), [0] + [-2] * 8)
        self.assertEqual(blocks.narrow8(a=[4] * 4, b=[65536] * 4), [0] + [4] * 4 + [32767] * 4)
        self.assertEqual(blocks.points16(a=[4] * 8, b=[256] * 8), [0] + [4] * 8 + [255] * 8)
        self.assertEqual(blocks.least8(a=[6, 5] * 4), [65541])


class Quiet(unittest.TestCase):

    def test_nothing_is_imported(self):
        for path, tree in trees():
            for node in ast.walk(tree):
                self.assertNotIsInstance(node, (ast.Import, ast.ImportFrom), path)

    def test_nothing_is_read_or_printed(self):
        for path, tree in trees():
            for node in ast.walk(tree):
                if isinstance(node, ast.Name) and hasattr(builtins, node.id):
                    self.assertIn(node.id, HARMLESS, path)


class Form(unittest.TestCase):

    def test_signs_and_sizes(self):
        for path, tree in trees():
            text = path.read_text("utf-8")
            self.assertTrue(all(sign == "\n" or " " <= sign <= "~" for sign in text), path)
            self.assertLessEqual(len(text.splitlines()), 400, path)
            self.assertLessEqual(max(len(line) for line in text.splitlines()), 120, path)
            for node in ast.walk(tree):
                if isinstance(node, ast.FunctionDef):
                    self.assertLessEqual(node.end_lineno - node.lineno + 1, 40, node.name)

    def test_the_top_of_a_file_holds_plain_values(self):
        for path, tree in trees():
            for node in tree.body:
                self.assertIsInstance(node, (ast.Expr, ast.Assign, ast.FunctionDef), path)
                if isinstance(node, (ast.Expr, ast.Assign)):
                    ast.literal_eval(node.value)


if __name__ == "__main__":
    unittest.main()

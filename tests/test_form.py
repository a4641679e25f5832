"""The form of the package's own files, as far as it can be read off them."""

import ast
import pathlib
import re
import unittest

import gangwaycards

FOLDER = pathlib.Path(gangwaycards.__file__).parent
STATEMENTS = (
    ast.Module, ast.FunctionDef, ast.ClassDef, ast.ImportFrom, ast.Assign, ast.AugAssign, ast.If, ast.While,
    ast.For, ast.Return, ast.Break, ast.Continue, ast.Pass, ast.Raise, ast.Expr,
)
EXPRESSIONS = (
    ast.Constant, ast.Name, ast.List, ast.Tuple, ast.Dict, ast.BinOp, ast.UnaryOp, ast.BoolOp, ast.Compare,
    ast.IfExp, ast.Call, ast.Attribute, ast.Subscript, ast.Slice, ast.ListComp,
)
BUILT_IN = {"len", "max"}
METHODS = {"append", "extend", "pop"}
WORDS_NOT_USED = re.compile(
    r"\b(type|typing|enum|Enum|Flag|Generic|Protocol|ABC|namedtuple|register|elements|open|input)\b"
    r"|dataclass|overload|contextmanager")


def sources():
    return sorted(FOLDER.glob("*.py"))


class FormTest(unittest.TestCase):

    def test_plain_files_alone(self):
        others = [path.name for path in FOLDER.iterdir() if path.suffix != ".py" and path.name != "__pycache__"]
        self.assertEqual(others, [])
        self.assertIn("__init__.py", [path.name for path in sources()])

    def test_size_and_signs(self):
        for path in sources():
            lines = path.read_bytes().decode("ascii").split("\n")
            self.assertLessEqual(len(lines), 400, path.name)
            for line in lines:
                self.assertLessEqual(len(line), 120, line)
                self.assertRegex(line, r"^[ -~]*$")

    def test_words_that_are_not_used(self):
        for path in sources():
            code = path.read_text(encoding="ascii")
            self.assertEqual([found.group(0) for found in WORDS_NOT_USED.finditer(code)], [], path.name)

    def test_kinds_of_code(self):
        for path in sources():
            for node in ast.walk(ast.parse(path.read_text(encoding="ascii"))):
                if isinstance(node, ast.stmt):
                    self.assertIsInstance(node, STATEMENTS, path.name)
                if isinstance(node, ast.expr):
                    self.assertIsInstance(node, EXPRESSIONS, path.name)
                if isinstance(node, (ast.For, ast.While)):
                    self.assertEqual(node.orelse, [], path.name)
                if isinstance(node, ast.Assign):
                    self.assertEqual(len(node.targets), 1, path.name)
                if isinstance(node, ast.Constant):
                    self.assertNotIsInstance(node.value, (float, bytes, complex), path.name)

    def test_imports_are_the_package_s_own(self):
        for path in sources():
            for node in ast.walk(ast.parse(path.read_text(encoding="ascii"))):
                if isinstance(node, ast.ImportFrom):
                    self.assertEqual(node.level, 0)
                    self.assertRegex(node.module, r"^gangwaycards\.[a-z]+$")
                    self.assertEqual([name.name for name in node.names if name.name == "*" or name.asname], [])

    def test_names_are_drawn_from_the_file_that_defines_them(self):
        drawn = {}
        for path in sources():
            drawn[path.stem] = []
            for node in ast.parse(path.read_text(encoding="ascii")).body:
                if isinstance(node, ast.ImportFrom):
                    stem = node.module.split(".")[1]
                    drawn[path.stem].append(stem)
                    code = (FOLDER / f"{stem}.py").read_text(encoding="ascii")
                    for name in node.names:
                        self.assertRegex(code, rf"(?m)^((def|class) {name.name}\b|{name.name} = )")
        # What draws from nothing that is left is taken away; in a ring nothing ever could be.
        while drawn:
            free = [stem for stem in drawn if not set(drawn[stem]) & set(drawn)]
            self.assertNotEqual(free, [], drawn)
            for stem in free:
                del drawn[stem]

    def test_methods_of_python_s_own_values(self):
        for path in sources():
            for node in ast.walk(ast.parse(path.read_text(encoding="ascii"))):
                if isinstance(node, ast.Call) and isinstance(node.func, ast.Attribute):
                    self.assertIn(node.func.attr, METHODS, path.name)

    def test_functions_are_short_and_plain(self):
        for path in sources():
            for node in ast.walk(ast.parse(path.read_text(encoding="ascii"))):
                if isinstance(node, ast.FunctionDef):
                    self.assertLessEqual(node.end_lineno - node.lineno + 1, 40, node.name)
                    self.assertEqual(node.decorator_list, [], node.name)
                    self.assertFalse(node.args.vararg or node.args.kwarg or node.args.kwonlyargs, node.name)
                    self.assertTrue(node.name == "__init__" or not node.name.startswith("_"), node.name)

    def test_python_s_own_names(self):
        for path in sources():
            tree = ast.parse(path.read_text(encoding="ascii"))
            bound = {node.id for node in ast.walk(tree) if isinstance(node, ast.Name)
                     and isinstance(node.ctx, ast.Store)}
            bound |= {node.arg for node in ast.walk(tree) if isinstance(node, ast.arg)}
            bound |= {node.name for node in ast.walk(tree) if isinstance(node, (ast.FunctionDef, ast.ClassDef))}
            for node in ast.walk(tree):
                if isinstance(node, ast.ImportFrom):
                    bound |= {name.name for name in node.names}
            read = {node.id for node in ast.walk(tree) if isinstance(node, ast.Name)}
            self.assertLessEqual(read - bound, BUILT_IN, path.name)

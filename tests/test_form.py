"""The package's own files keep to the part of Python that the program is written in."""

import ast
import pathlib
import re
import unittest

PACKAGE = pathlib.Path(__file__).resolve().parent.parent / "keptuntil"
FILES = sorted(path for path in PACKAGE.rglob("*") if path.is_file() and "__pycache__" not in path.parts)

STATEMENTS = (ast.Assign, ast.If, ast.While, ast.For, ast.Return, ast.Break, ast.Continue, ast.Pass, ast.Raise,
              ast.Expr, ast.FunctionDef, ast.ClassDef, ast.ImportFrom)
EXPRESSIONS = (ast.Constant, ast.Name, ast.Attribute, ast.Subscript, ast.Slice, ast.Call, ast.BinOp, ast.UnaryOp,
               ast.BoolOp, ast.Compare, ast.IfExp, ast.List, ast.Tuple, ast.Dict, ast.ListComp,
               ast.Lambda)
BUILT_IN = ("len", "range", "min", "max", "sum", "abs", "sorted", "list", "tuple", "dict", "enumerate", "zip",
            "reversed", "int", "str", "bool", "any", "all", "divmod")
METHODS = ("append", "extend", "get", "pop", "copy", "count", "index", "insert", "items", "keys", "values")
KEYWORDS = {"sorted": {"key", "reverse"}, "min": {"key", "default"}, "max": {"key", "default"}}
WORDS = re.compile(r"\b(type|typing|typing_extensions|enum|Enum|IntEnum|StrEnum|Flag|IntFlag|Generic|Protocol|ABC|"
                   r"ABCMeta|namedtuple|NamedTuple|TypedDict|TYPE_CHECKING|abstractmethod)\b"
                   r"|dataclass|overload|contextmanager")
PYTHON_S_OWN = set(dir(__builtins__)) if not isinstance(__builtins__, dict) else set(__builtins__)


def tree_of(path):
    return ast.parse(path.read_text(encoding="ascii"))


def each_node():
    for path in FILES:
        for node in ast.walk(tree_of(path)):
            yield f"{path.name}:{getattr(node, 'lineno', '?')}", node


def bound_at_top(tree):
    for node in tree.body:
        if isinstance(node, (ast.FunctionDef, ast.ClassDef)):
            yield node.name
        elif isinstance(node, ast.Assign):
            yield node.targets[0].id
        elif isinstance(node, ast.ImportFrom):
            yield from (alias.name for alias in node.names)


class Files(unittest.TestCase):
    def test_only_plain_python_files_lie_there(self):
        self.assertIn(PACKAGE / "__init__.py", FILES)
        for path in FILES:
            self.assertRegex(path.name, r"^([a-z][a-z0-9_]*|__init__)\.py$")
            self.assertEqual(path.parent, PACKAGE)

    def test_signs_lines_and_sizes(self):
        for path in FILES:
            text = path.read_bytes().decode("ascii")
            self.assertRegex(text, r"\A[ -~\n]*\n\Z", path.name)
            lines = text.splitlines()
            self.assertLessEqual(len(lines), 400, path.name)
            self.assertLessEqual(max(map(len, lines)), 120, path.name)

    def test_words_that_stand_nowhere(self):
        for path in FILES:
            self.assertIsNone(WORDS.search(path.read_text()), path.name)


class Code(unittest.TestCase):
    def test_statements_and_expressions(self):
        for place, node in each_node():
            if isinstance(node, ast.stmt):
                self.assertIsInstance(node, STATEMENTS, place)
            if isinstance(node, ast.expr):
                self.assertIsInstance(node, EXPRESSIONS, place)

    def test_values(self):
        for place, node in each_node():
            if isinstance(node, ast.Constant):
                self.assertIn(type(node.value), (int, str, bool, type(None)), place)
            if isinstance(node, ast.BinOp):
                self.assertNotIsInstance(node.op, (ast.Div, ast.MatMult, ast.Pow), place)
            if isinstance(node, ast.Compare) and isinstance(node.ops[0], (ast.Is, ast.IsNot)):
                self.assertIn(ast.unparse(node.comparators[0]), ("None", "True", "False"), place)
                self.assertEqual(len(node.ops), 1, place)
            elif isinstance(node, ast.Compare):
                self.assertFalse([op for op in node.ops if isinstance(op, (ast.Is, ast.IsNot))], place)

    def test_one_target_and_no_else_behind_a_loop(self):
        for place, node in each_node():
            if isinstance(node, ast.Assign):
                self.assertEqual(len(node.targets), 1, place)
                self.assertIsInstance(node.targets[0], (ast.Name, ast.Attribute, ast.Subscript), place)
            if isinstance(node, (ast.For, ast.While)):
                self.assertEqual(node.orelse, [], place)

    def test_functions(self):
        for place, node in each_node():
            if isinstance(node, ast.FunctionDef):
                self.assertLessEqual(node.end_lineno - node.lineno + 1, 40, place)
                plain = node.args
                extra = [plain.vararg, plain.kwarg, node.returns, *plain.kwonlyargs, *plain.posonlyargs]
                self.assertFalse([part for part in extra if part] + node.decorator_list + plain.defaults, place)
                self.assertFalse([arg for arg in plain.args if arg.annotation], place)

    def test_classes(self):
        for place, node in each_node():
            if isinstance(node, ast.ClassDef):
                self.assertFalse(node.bases + node.keywords + node.decorator_list, place)
                self.assertEqual([part.name for part in node.body], ["__init__"], place)

    def test_imports_are_the_package_s_own_from_where_a_name_is_made(self):
        for place, node in each_node():
            if isinstance(node, ast.ImportFrom):
                self.assertRegex(node.module, r"^keptuntil\.[a-z]+$", place)
                self.assertEqual(node.level, 0, place)
                source = tree_of(PACKAGE / (node.module.split(".")[1] + ".py"))
                source.body = [part for part in source.body if not isinstance(part, ast.ImportFrom)]
                for alias in node.names:
                    self.assertIn(alias.name, list(bound_at_top(source)), place)
                    self.assertIsNone(alias.asname, place)

    def test_no_two_files_draw_from_one_another(self):
        draws = {path.stem: {node.module.split(".")[1] for node in tree_of(path).body
                             if isinstance(node, ast.ImportFrom)} for path in FILES}
        while draws:
            free = [name for name in draws if not draws[name] & set(draws)]
            self.assertTrue(free, f"these draw from one another: {sorted(draws)}")
            for name in free:
                draws.pop(name)


class Names(unittest.TestCase):
    def test_each_name_is_plain(self):
        for place, node in each_node():
            if isinstance(node, ast.Name):
                self.assertRegex(node.id, r"^[A-Za-z][A-Za-z0-9_]*$", place)
            if isinstance(node, ast.Attribute):
                self.assertRegex(node.attr, r"^[A-Za-z][A-Za-z0-9_]*$", place)

    def test_a_name_is_bound_once_at_a_file_s_top(self):
        for path in FILES:
            names = list(bound_at_top(tree_of(path)))
            self.assertEqual(len(names), len(set(names)), path.name)

    def test_no_name_of_python_s_own_is_bound(self):
        for path in FILES:
            top = set(bound_at_top(tree_of(path)))
            self.assertFalse(top & PYTHON_S_OWN, path.name)
            for node in ast.walk(tree_of(path)):
                bound = node.arg if isinstance(node, ast.arg) else None
                if isinstance(node, ast.Name) and isinstance(node.ctx, ast.Store):
                    bound = node.id if node.col_offset else None
                self.assertNotIn(bound, PYTHON_S_OWN | top, path.name)

    def test_only_some_of_python_s_own_are_called(self):
        for place, node in each_node():
            if isinstance(node, ast.Name) and node.id in PYTHON_S_OWN:
                self.assertIn(node.id, BUILT_IN, place)
            if isinstance(node, ast.Call) and isinstance(node.func, ast.Attribute):
                self.assertIn(node.func.attr, METHODS, place)
            if isinstance(node, ast.Call):
                keywords = {keyword.arg: keyword.value for keyword in node.keywords}
                self.assertLessEqual(set(keywords), KEYWORDS.get(ast.unparse(node.func), set()), place)
                if "key" in keywords:
                    self.assertIsInstance(keywords["key"], ast.Lambda, place)
                if "reverse" in keywords:
                    self.assertIn(ast.unparse(keywords["reverse"]), ("True", "False"), place)


if __name__ == "__main__":
    unittest.main()

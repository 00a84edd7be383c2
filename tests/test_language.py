"""The package keeps to the part of Python that is told rule by rule: what of it a walk over the code can see."""

import ast
import builtins
import pathlib
import re
import unittest

ROOT = pathlib.Path(__file__).resolve().parent.parent
PACKAGE = ROOT / "exactmatrices"

STATEMENTS = (
    ast.Assign, ast.AugAssign, ast.If, ast.While, ast.For, ast.Return, ast.Break, ast.Continue, ast.Pass, ast.Raise,
    ast.Try, ast.Expr, ast.FunctionDef, ast.ClassDef, ast.ImportFrom,
)
EXPRESSIONS = (
    ast.Constant, ast.Name, ast.Attribute, ast.Subscript, ast.Slice, ast.Call, ast.List, ast.Tuple, ast.Dict,
    ast.BinOp, ast.UnaryOp, ast.BoolOp, ast.Compare, ast.IfExp, ast.ListComp, ast.Lambda, ast.JoinedStr,
    ast.FormattedValue,
)
BUILTINS = set(
    "len range enumerate zip min max sum abs sorted reversed int str bool list tuple dict set frozenset isinstance "
    "ord repr any all divmod ValueError KeyError IndexError LookupError ZeroDivisionError StopIteration".split())
METHODS = set(
    "append clear copy count endswith extend find get index insert isalnum isalpha isdigit islower isspace isupper "
    "items join keys ljust lower lstrip partition pop remove replace reverse rfind rjust rpartition rsplit rstrip "
    "setdefault split splitlines startswith strip update upper values zfill bit_length".split())
NO_NAMES = set(
    "register mro elements open input version_info with_traceback add_note format format_map attrgetter breakpoint "
    "compile copyright credits delattr dir eval exec exit gc getattr globals hasattr help id importlib license "
    "locals methodcaller os quit setattr super type vars sys chr print".split())
NO_WORDS = re.compile(
    r"\b(type|typing|typing_extensions|enum|Enum|IntEnum|StrEnum|Flag|IntFlag|Generic|Protocol|ABC|ABCMeta|"
    r"namedtuple|NamedTuple|TypedDict|TYPE_CHECKING|abstractmethod)\b|dataclass|overload|contextmanager")
TWO_UNDERSCORES = {"__init__", "__eq__", "__repr__", "__str__", "__len__"}


def files():
    return sorted(PACKAGE.glob("**/*.py"))


def module_name(path):
    return ".".join(path.relative_to(ROOT).with_suffix("").parts)


def trees():
    return [(path, ast.parse(path.read_text(encoding="utf-8"))) for path in files()]


def is_docstring(node):
    return isinstance(node, ast.Expr) and isinstance(node.value, ast.Constant) and isinstance(node.value.value, str)


def bound_at_top(tree):
    names = []
    for node in tree.body:
        if isinstance(node, (ast.FunctionDef, ast.ClassDef)):
            names.append(node.name)
        elif isinstance(node, ast.Assign):
            names += [target.id for target in node.targets]
        elif isinstance(node, ast.ImportFrom):
            names += [alias.name for alias in node.names]
    return names


class Files(unittest.TestCase):

    def test_nothing_else_lies_in_the_package(self):
        for path in PACKAGE.rglob("*"):
            if "__pycache__" in path.parts:
                continue
            self.assertRegex(path.name, r"\A([a-z][a-z0-9_]*|__init__|__main__)\.py\Z" if path.is_file() else "[a-z]")
            self.assertNotRegex(path.name, r"\A(tests?|testing|test_.*|site|conftest|sitecustomize)\b")
            self.assertTrue(path.stem.startswith("__") or not hasattr(builtins, path.stem), path)

    def test_signs_and_sizes(self):
        for path in files():
            text = path.read_text(encoding="utf-8")
            self.assertRegex(text, r"\A[\n -~]*\Z", path)
            self.assertIsNone(NO_WORDS.search(text), path)
            lines = text.splitlines()
            self.assertLessEqual(len(lines), 400, path)
            self.assertLessEqual(max(len(line) for line in lines), 120, path)

    def test_functions_have_at_most_40_lines(self):
        for path, tree in trees():
            for node in ast.walk(tree):
                if isinstance(node, ast.FunctionDef):
                    self.assertLessEqual(node.end_lineno - node.lineno + 1, 40, (path, node.name))


class Tops(unittest.TestCase):

    def test_imports_are_the_package_s_own_from_the_file_that_defines_the_name(self):
        tops = {module_name(path): tree for path, tree in trees()}
        for path, tree in trees():
            for node in ast.walk(tree):
                if not isinstance(node, ast.ImportFrom):
                    continue
                self.assertIn(node, tree.body)
                self.assertEqual(node.level, 0)
                self.assertIn(node.module, tops, path)
                drawn = {alias.name for other in tops[node.module].body if isinstance(other, ast.ImportFrom)
                         for alias in other.names}
                for alias in node.names:
                    self.assertIsNone(alias.asname)
                    self.assertIn(alias.name, set(bound_at_top(tops[node.module])) - drawn, path)

    def test_no_two_files_draw_from_one_another(self):
        drawn = {module_name(path): {node.module for node in tree.body if isinstance(node, ast.ImportFrom)}
                 for path, tree in trees()}
        while drawn:
            free = [name for name in drawn if not drawn[name] & set(drawn)]
            self.assertTrue(free, drawn)
            drawn = {name: drawn[name] for name in drawn if name not in free}

    def test_each_name_is_bound_once_and_to_a_plain_value(self):
        for path, tree in trees():
            names = bound_at_top(tree)
            self.assertEqual(len(names), len(set(names)), path)
            for k, node in enumerate(tree.body):
                if is_docstring(node):
                    self.assertEqual(k, 0, path)
                else:
                    self.assertIsInstance(node, (ast.Assign, ast.FunctionDef, ast.ClassDef, ast.ImportFrom), path)
                if isinstance(node, ast.Assign):
                    ast.literal_eval(node.value)


class Code(unittest.TestCase):

    def said(self, path, node):
        return "%s:%s" % (path.name, getattr(node, "lineno", "?"))

    def test_statements_and_expressions(self):
        for path, tree in trees():
            for node in ast.walk(tree):
                if isinstance(node, ast.stmt):
                    self.assertIsInstance(node, STATEMENTS, self.said(path, node))
                if isinstance(node, ast.expr):
                    self.assertIsInstance(node, EXPRESSIONS, self.said(path, node))
                self.assertNotIsInstance(node, (ast.Div, ast.MatMult), path)
                self.check_node(path, node)

    def check_node(self, path, node):
        said = self.said(path, node)
        if isinstance(node, ast.Assign):
            self.assertEqual(len(node.targets), 1, said)
            self.assertNotIsInstance(node.targets[0], (ast.Tuple, ast.List), said)
        if isinstance(node, ast.Expr):
            self.assertTrue(is_docstring(node) or isinstance(node.value, ast.Call), said)
        if isinstance(node, (ast.For, ast.While)):
            self.assertEqual(node.orelse, [], said)
        if isinstance(node, ast.ListComp):
            self.assertEqual(len(node.generators), 1, said)
            self.assertLessEqual(len(node.generators[0].ifs), 1, said)
        if isinstance(node, ast.Constant):
            self.assertIn(type(node.value), (int, str, bool, type(None)), said)
            self.assertNotIn("%", node.value if isinstance(node.value, str) else "", said)
        if isinstance(node, ast.BinOp) and isinstance(node.op, ast.Pow):
            self.assertIsInstance(node.right, ast.Constant, said)
        if isinstance(node, ast.Compare):
            for op, right in zip(node.ops, node.comparators):
                if isinstance(op, (ast.Is, ast.IsNot)):
                    self.assertIsInstance(right, ast.Constant, said)
        if isinstance(node, ast.FunctionDef):
            self.check_function(node, said)
        if isinstance(node, ast.ClassDef):
            self.assertEqual((node.decorator_list, node.keywords), ([], []), said)
            for part in node.body:
                self.assertIsInstance(part, ast.FunctionDef, said)

    def check_function(self, node, said):
        arguments = node.args
        self.assertEqual((node.decorator_list, arguments.kwonlyargs, arguments.posonlyargs), ([], [], []), said)
        self.assertEqual((arguments.vararg, arguments.kwarg, node.returns), (None, None, None), said)

    def test_names(self):
        for path, tree in trees():
            top = set(bound_at_top(tree))
            kept_out = {node.name for node in tree.body if isinstance(node, ast.ClassDef)}
            for node in tree.body:
                if isinstance(node, ast.ImportFrom):
                    kept_out |= {alias.name for alias in node.names}
            local = {node.arg for node in ast.walk(tree) if isinstance(node, ast.arg)}
            for function in [node for node in ast.walk(tree) if isinstance(node, ast.FunctionDef)]:
                local |= {node.id for node in ast.walk(function)
                          if isinstance(node, ast.Name) and isinstance(node.ctx, ast.Store)}
            for name in local | top:
                self.assertRegex(name, r"\A[A-Za-z][A-Za-z0-9_]*\Z", path)
                self.assertFalse(hasattr(builtins, name), (path, name))
                self.assertNotIn(name, NO_NAMES, path)
            self.assertEqual(local & kept_out, set(), path)
            for node in ast.walk(tree):
                if isinstance(node, ast.Name):
                    self.assertIn(node.id, local | top | BUILTINS, self.said(path, node))

    def test_attributes(self):
        own = set()
        for path, tree in trees():
            for node in ast.walk(tree):
                if isinstance(node, ast.ClassDef):
                    own |= {part.name for part in node.body if isinstance(part, ast.FunctionDef)}
                if isinstance(node, ast.Attribute) and isinstance(node.ctx, ast.Store):
                    own.add(node.attr)
        for name in own - TWO_UNDERSCORES:
            self.assertRegex(name, r"\A[A-Za-z][A-Za-z0-9_]*\Z")
            self.assertNotIn(name, NO_NAMES)
            for kind in (str, int, list, dict, set, bytes, tuple):
                self.assertFalse(hasattr(kind, name), name)
        for path, tree in trees():
            for node in ast.walk(tree):
                if isinstance(node, ast.Attribute):
                    self.assertIn(node.attr, own | METHODS, self.said(path, node))


if __name__ == "__main__":
    unittest.main()

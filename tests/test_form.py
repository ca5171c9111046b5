"""The form of the package's files, as far as a program can see it: rules L1 to L28."""

import ast
import builtins
import pathlib
import re
import unittest

PACKAGE = pathlib.Path(__file__).resolve().parent.parent / "signalboxdesk"

STATEMENTS = (
    ast.Assign, ast.AugAssign, ast.If, ast.While, ast.For, ast.Return, ast.Break, ast.Continue, ast.Pass, ast.Raise,
    ast.Try, ast.Expr, ast.FunctionDef, ast.ClassDef, ast.ImportFrom,
)
EXPRESSIONS = (
    ast.Constant, ast.List, ast.Tuple, ast.Dict, ast.BinOp, ast.UnaryOp, ast.BoolOp, ast.Compare, ast.IfExp, ast.Call,
    ast.Attribute, ast.Subscript, ast.Slice, ast.ListComp, ast.Name, ast.Lambda,
)
OWN_OF_PYTHON = set(
    "len range enumerate zip min max sum abs sorted reversed int str bool list tuple dict isinstance ord repr any all "
    "divmod".split()
)
METHODS = set(
    "append clear copy count endswith extend find get index insert isalnum isalpha isdigit islower isspace isupper "
    "items join keys ljust lower lstrip partition pop remove replace reverse rfind rjust rpartition rsplit rstrip "
    "setdefault split splitlines startswith strip update upper values zfill bit_length".split()
)
WORDS_OUT = re.compile(
    r"\b(type|typing|typing_extensions|enum|Enum|IntEnum|StrEnum|Flag|IntFlag|Generic|Protocol|ABC|ABCMeta|namedtuple|"
    r"NamedTuple|TypedDict|TYPE_CHECKING|abstractmethod)\b|dataclass|overload|contextmanager"
)
NAMES_OUT = set("register mro elements open input version_info with_traceback add_note format format_map".split())
PLAIN_NAME = re.compile(r"[A-Za-z][A-Za-z0-9_]*$")


def package_files():
    return sorted(path for path in PACKAGE.rglob("*") if "__pycache__" not in path.parts)


def is_plain(node):
    if isinstance(node, (ast.List, ast.Tuple)):
        return all(is_plain(item) for item in node.elts)
    if isinstance(node, ast.UnaryOp):
        return isinstance(node.op, ast.USub) and is_plain(node.operand)
    return isinstance(node, ast.Constant)


class Form(unittest.TestCase):
    def setUp(self):
        self.texts = {path: path.read_text("utf-8") for path in package_files() if path.is_file()}
        self.trees = {path: ast.parse(text) for path, text in self.texts.items()}
        self.assertIn(PACKAGE / "box.py", self.trees)

    def nodes(self, *kinds):
        for path, tree in self.trees.items():
            for node in ast.walk(tree):
                if isinstance(node, kinds):
                    yield f"{path.name}:{getattr(node, 'lineno', 0)}", node

    def test_files(self):
        for path in package_files():
            self.assertTrue(path.is_file() and re.match(r"[a-z0-9_]+\.py$", path.name), path)
        self.assertIn(PACKAGE / "__init__.py", self.texts)

    def test_signs_and_sizes(self):
        for path, text in self.texts.items():
            rows = text.split("\n")
            self.assertTrue(all(" " <= sign <= "~" or sign == "\n" for sign in text), path)
            self.assertLessEqual(len(rows), 400, path)
            self.assertLessEqual(max(len(row) for row in rows), 120, path)
            self.assertIsNone(WORDS_OUT.search(text), path)

    def test_functions(self):
        for place, node in self.nodes(ast.FunctionDef):
            self.assertLessEqual(node.end_lineno - node.lineno + 1, 40, place)
            self.assertEqual(node.decorator_list, [], place)
            rest = (node.args.vararg, node.args.kwarg, node.args.kwonlyargs, node.args.posonlyargs)
            self.assertEqual(rest, (None, None, [], []), place)

    def test_parts_of_the_language(self):
        for place, node in self.nodes(ast.stmt):
            self.assertIsInstance(node, STATEMENTS, place)
        for place, node in self.nodes(ast.expr):
            self.assertIsInstance(node, EXPRESSIONS, place)
        for place, node in self.nodes(ast.Constant):
            self.assertIn(type(node.value), (int, str, bool, type(None)), place)
        for place, node in self.nodes(ast.Div, ast.Pow, ast.MatMult):
            self.fail(place)
        for place, node in self.nodes(ast.For, ast.While):
            self.assertEqual(node.orelse, [], place)
        for place, node in self.nodes(ast.ListComp):
            self.assertTrue(len(node.generators) == 1 and len(node.generators[0].ifs) <= 1, place)
        for place, node in self.nodes(ast.Assign):
            self.assertTrue(len(node.targets) == 1 and not isinstance(node.targets[0], ast.Tuple), place)

    def test_tops_of_files(self):
        for path, tree in self.trees.items():
            for node in tree.body[1:]:
                if isinstance(node, ast.Assign):
                    self.assertTrue(is_plain(node.value), f"{path.name}:{node.lineno}")
                else:
                    self.assertIsInstance(node, (ast.ImportFrom, ast.FunctionDef, ast.ClassDef), path)
            self.assertIsNotNone(ast.get_docstring(tree), path)

    def test_imports_from_the_file_that_defines_the_name(self):
        for place, node in self.nodes(ast.ImportFrom):
            self.assertTrue(node.level == 0 and node.module.startswith("signalboxdesk."), place)
            defined = set()
            for top in self.trees[PACKAGE / (node.module.split(".")[1] + ".py")].body:
                defined.update([top.name] if hasattr(top, "name") else [])
                defined.update(target.id for target in getattr(top, "targets", []))
            for alias in node.names:
                self.assertTrue(alias.asname is None and alias.name in defined, place)

    def test_no_two_files_draw_from_one_another(self):
        drawn = {}
        for path, tree in self.trees.items():
            drawn[path.stem] = {n.module.split(".")[1] for n in ast.walk(tree) if isinstance(n, ast.ImportFrom)}
        while drawn:
            ends = [name for name in drawn if not drawn[name] & set(drawn)]
            self.assertNotEqual(ends, [], drawn)
            for name in ends:
                drawn.pop(name)

    def test_names(self):
        bound = set()
        for place, node in self.nodes(ast.FunctionDef, ast.ClassDef, ast.alias):
            bound.add(node.name)
            self.assertTrue(PLAIN_NAME.match(node.name) or node.name == "__init__", place)
        for place, node in self.nodes(ast.arg):
            bound.add(node.arg)
        for place, node in self.nodes(ast.Name):
            if isinstance(node.ctx, ast.Store):
                bound.add(node.id)
        self.assertEqual(bound & (NAMES_OUT | set(dir(builtins))), set())
        for place, node in self.nodes(ast.Name):
            self.assertTrue(PLAIN_NAME.match(node.id) and node.id in bound | OWN_OF_PYTHON, place)

    def test_locals_are_not_called_like_tops(self):
        for path, tree in self.trees.items():
            tops = {n.name for n in tree.body if isinstance(n, (ast.ClassDef, ast.FunctionDef))}
            tops.update(a.name for n in tree.body if isinstance(n, ast.ImportFrom) for a in n.names)
            stored = {n.id for n in ast.walk(tree) if isinstance(n, ast.Name) and isinstance(n.ctx, ast.Store)}
            stored.update(n.arg for n in ast.walk(tree) if isinstance(n, ast.arg))
            self.assertEqual(tops & stored, set(), path)

    def test_methods_and_values(self):
        own = set()
        for place, node in self.nodes(ast.ClassDef):
            self.assertEqual((node.decorator_list, node.keywords), ([], []), place)
            own.update(item.name for item in node.body if isinstance(item, ast.FunctionDef))
            for item in node.body:
                self.assertIsInstance(item, ast.FunctionDef, place)
        called = set()
        for place, node in self.nodes(ast.Call):
            if isinstance(node.func, ast.Attribute):
                called.add(id(node.func))
                self.assertIn(node.func.attr, METHODS | own, place)
        for place, node in self.nodes(ast.Attribute):
            self.assertNotIn(node.attr, NAMES_OUT, place)
            if id(node) not in called:
                self.assertNotIn(node.attr, METHODS | own, place)


if __name__ == "__main__":
    unittest.main()

"""The package's own files keep to the small part of Python they are written in."""

import ast
import builtins
import pathlib
import re
import unittest

PACKAGE = pathlib.Path(__file__).resolve().parent.parent / "heavykeys"

STATEMENTS = (
    ast.Assign, ast.AugAssign, ast.If, ast.While, ast.For, ast.Return, ast.Break, ast.Continue, ast.Pass, ast.Raise,
    ast.Try, ast.ExceptHandler, ast.Expr, ast.FunctionDef, ast.ClassDef, ast.ImportFrom,
)
EXPRESSIONS = (
    ast.BinOp, ast.UnaryOp, ast.BoolOp, ast.Compare, ast.IfExp, ast.Call, ast.Attribute, ast.Subscript, ast.Slice,
    ast.ListComp, ast.comprehension, ast.Name, ast.Constant, ast.List, ast.Tuple, ast.Dict, ast.Lambda, ast.keyword,
    ast.JoinedStr, ast.FormattedValue,
)
REST = (
    ast.Module, ast.arguments, ast.arg, ast.alias, ast.expr_context, ast.operator, ast.unaryop, ast.boolop, ast.cmpop,
)
OWN_NAMES = set(
    "len range enumerate zip min max sum abs sorted reversed int str bool list tuple dict set frozenset isinstance ord"
    " repr any all divmod Exception ValueError TypeError KeyError IndexError LookupError ZeroDivisionError"
    " ArithmeticError OverflowError RuntimeError NotImplementedError AttributeError StopIteration".split()
)
OWN_METHODS = set(
    "append clear copy count endswith extend find get index insert isalnum isalpha isdigit islower isspace isupper"
    " items join keys ljust lower lstrip partition pop remove replace reverse rfind rjust rpartition rsplit rstrip"
    " setdefault split splitlines startswith strip update upper values zfill bit_length".split()
)
WORDS_NOWHERE = (
    r"\b(type|typing|typing_extensions|enum|Enum|IntEnum|StrEnum|Flag|IntFlag|Generic|Protocol|ABC|ABCMeta|namedtuple"
    r"|NamedTuple|TypedDict|TYPE_CHECKING|abstractmethod)\b|dataclass|overload|contextmanager"
)
NAMES_NOWHERE = set("register mro elements open input version_info with_traceback add_note format format_map".split())


def sources():
    return [(path, path.read_text(encoding="utf-8")) for path in sorted(PACKAGE.glob("*.py"))]


def nodes(*kinds):
    for path, text in sources():
        for node in ast.walk(ast.parse(text)):
            if isinstance(node, kinds):
                yield f"{path.name}:{getattr(node, 'lineno', 0)}", node


def bound_names():
    for where, node in nodes(ast.Name, ast.arg, ast.FunctionDef, ast.ClassDef, ast.alias):
        if isinstance(node, ast.Name) and isinstance(node.ctx, ast.Load):
            continue
        yield where, getattr(node, "id", None) or getattr(node, "arg", None) or node.name


class Language(unittest.TestCase):
    def test_only_plain_files_lie_in_the_package(self):
        names = [path.name for path in PACKAGE.iterdir() if path.name != "__pycache__"]
        self.assertIn("__init__.py", names)
        for name in names:
            self.assertRegex(name, r"\A(__init__|__main__|[a-z][a-z0-9_]*)\.py\Z")

    def test_sizes_and_signs(self):
        for path, text in sources():
            rows = text.split("\n")
            self.assertLessEqual(len(rows), 400, path)
            self.assertLessEqual(max(len(row) for row in rows), 120, path)
            self.assertRegex(text, r"\A[ -~\n]*\Z", path)
            self.assertIsNone(re.search(WORDS_NOWHERE, text), path)
        for where, node in nodes(ast.FunctionDef):
            self.assertLessEqual(node.end_lineno - node.lineno + 1, 40, where)

    def test_forms(self):
        for where, node in nodes(ast.AST):
            self.assertIsInstance(node, STATEMENTS + EXPRESSIONS + REST, where)
        for where, node in nodes(ast.FunctionDef, ast.ClassDef):
            self.assertEqual(node.decorator_list, [], where)
        for where, node in nodes(ast.Div, ast.MatMult):
            self.fail(where)
        for where, node in nodes(ast.Constant):
            self.assertIsInstance(node.value, (int, str, type(None)), where)
        for where, node in nodes(ast.Assign):
            self.assertEqual(len(node.targets), 1, where)

    def test_imports_are_the_packages_own(self):
        for where, node in nodes(ast.ImportFrom):
            self.assertEqual(node.level, 0, where)
            self.assertRegex(node.module, r"\Aheavykeys\.[a-z0-9_]+\Z", where)
            self.assertNotIn("*", [alias.name for alias in node.names], where)

    def test_pythons_own_names(self):
        own = set(dir(builtins))
        for where, node in nodes(ast.Name):
            if node.id in own:
                self.assertIn(node.id, OWN_NAMES, where)
        for where, name in bound_names():
            self.assertNotIn(name, own | NAMES_NOWHERE, where)
            self.assertTrue(name == "__init__" or re.match(r"\A[A-Za-z][A-Za-z0-9_]*\Z", name), where)

    def test_methods_are_listed_or_the_packages_own(self):
        own = {node.name for where, node in nodes(ast.FunctionDef)}
        for where, node in nodes(ast.Call):
            if isinstance(node.func, ast.Attribute):
                self.assertIn(node.func.attr, OWN_METHODS | own, where)
        for where, node in nodes(ast.Attribute):
            self.assertNotIn(node.attr, NAMES_NOWHERE, where)

    def test_no_value_of_an_object_is_called_like_a_method(self):
        methods = {part.name for where, node in nodes(ast.ClassDef) for part in node.body}
        for where, node in nodes(ast.Attribute):
            if isinstance(node.ctx, ast.Store):
                self.assertNotIn(node.attr, methods | (OWN_METHODS - {"count", "index", "find", "get"}), where)

    def test_nothing_is_called_like_an_import_of_its_file(self):
        imports = {(where.split(":")[0], alias.name) for where, node in nodes(ast.ImportFrom) for alias in node.names}
        for where, node in nodes(ast.Name, ast.arg):
            if isinstance(node, ast.arg) or isinstance(node.ctx, ast.Store):
                name = node.arg if isinstance(node, ast.arg) else node.id
                self.assertNotIn((where.split(":")[0], name), imports, where)

    def test_no_two_files_draw_from_one_another(self):
        drawn = {}
        for where, node in nodes(ast.ImportFrom):
            drawn.setdefault(where.split(":")[0], []).append(node.module.split(".")[1] + ".py")
        for start in drawn:
            reached = set()
            waiting = list(drawn[start])
            while waiting:
                name = waiting.pop()
                if name not in reached:
                    reached.add(name)
                    waiting += drawn.get(name, [])
            self.assertNotIn(start, reached)


if __name__ == "__main__":
    unittest.main()

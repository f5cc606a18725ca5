"""The rules of the small part of Python that the package keeps to, as far as they can be read off."""

import ast
import builtins
import pathlib
import re
import unittest

PACKAGE = pathlib.Path(__file__).resolve().parent.parent / "wordkeysdesk"
FILES = sorted(PACKAGE.glob("*.py"))

STATEMENTS = (
    ast.Module, ast.ImportFrom, ast.alias, ast.FunctionDef, ast.arguments, ast.arg, ast.ClassDef, ast.Lambda,
    ast.Assign, ast.AugAssign, ast.If, ast.While, ast.For, ast.Return, ast.Break, ast.Continue, ast.Pass,
    ast.Raise, ast.Try, ast.ExceptHandler, ast.Expr,
)
EXPRESSIONS = (
    ast.Constant, ast.List, ast.Tuple, ast.Dict, ast.Name, ast.Attribute, ast.Subscript, ast.Slice, ast.Call,
    ast.keyword, ast.BinOp, ast.UnaryOp, ast.BoolOp, ast.Compare, ast.IfExp, ast.ListComp, ast.comprehension,
    ast.JoinedStr, ast.FormattedValue, ast.expr_context, ast.operator, ast.unaryop, ast.boolop, ast.cmpop,
)
PYTHONS_OWN = set(
    "len range enumerate zip min max sum abs sorted reversed int str bool list tuple dict set frozenset"
    " isinstance ord repr any all divmod Exception ValueError TypeError KeyError IndexError LookupError"
    " ZeroDivisionError ArithmeticError OverflowError RuntimeError NotImplementedError StopIteration".split()
)
METHODS = set(
    "append clear copy count endswith extend find get index insert isalnum isalpha isdigit islower isspace"
    " isupper items join keys ljust lower lstrip partition pop remove replace reverse rfind rjust rpartition"
    " rsplit rstrip setdefault split splitlines startswith strip update upper values zfill bit_length".split()
)
WALKED = ("zip", "enumerate", "reversed", "range", "items", "keys", "values")
WALKING = ("list", "tuple", "dict", "sorted", "sum", "any", "all", "enumerate", "zip", "min", "max")
WORDS_NOWHERE = (
    r"\b(type|typing|typing_extensions|enum|Enum|IntEnum|StrEnum|Flag|IntFlag|Generic|Protocol|ABC|ABCMeta"
    r"|namedtuple|NamedTuple|TypedDict|TYPE_CHECKING|abstractmethod)\b|dataclass|overload|contextmanager"
)


def nodes(path, kind):
    return [node for node in ast.walk(ast.parse(path.read_text())) if isinstance(node, kind)]


def own_methods():
    return {
        method.name for path in FILES for owner in nodes(path, ast.ClassDef)
        for method in owner.body if isinstance(method, ast.FunctionDef)
    }


def own_values():
    return {
        node.attr for path in FILES for node in nodes(path, ast.Attribute) if isinstance(node.ctx, ast.Store)
    }


def bound_names(path):
    tree = ast.parse(path.read_text())
    names = {node.id for node in ast.walk(tree) if isinstance(node, ast.Name) and isinstance(node.ctx, ast.Store)}
    names |= {node.arg for node in ast.walk(tree) if isinstance(node, ast.arg)}
    names |= {node.name for node in ast.walk(tree) if isinstance(node, ast.alias)}
    names |= {node.name for node in tree.body if isinstance(node, (ast.FunctionDef, ast.ClassDef))}
    return names


class Language(unittest.TestCase):

    def test_files(self):
        self.assertIn("__init__.py", [path.name for path in FILES])
        others = [path for path in PACKAGE.iterdir() if path not in FILES and path.name != "__pycache__"]
        self.assertEqual(others, [])
        for path in FILES:
            self.assertRegex(path.name, r"^[a-z0-9_]+\.py$")

    def test_signs_and_sizes(self):
        for path in FILES:
            text = path.read_text()
            self.assertNotRegex(text, r"[^ -~\n]")
            self.assertLessEqual(len(text.splitlines()), 400)
            self.assertLessEqual(max(len(line) for line in text.splitlines()), 120)
            for function in nodes(path, ast.FunctionDef):
                self.assertLessEqual(function.end_lineno - function.lineno + 1, 40, function.name)

    def test_words_that_stand_nowhere(self):
        for path in FILES:
            self.assertIsNone(re.search(WORDS_NOWHERE, path.read_text()), path.name)

    def test_forms(self):
        for path in FILES:
            for node in nodes(path, ast.AST):
                self.assertIsInstance(node, STATEMENTS + EXPRESSIONS, ast.dump(node)[:80])
                self.assertFalse(getattr(node, "decorator_list", []))
                self.assertNotIsInstance(node, (ast.Div, ast.MatMult))
                if isinstance(node, ast.Assign):
                    self.assertEqual(len(node.targets), 1)
                if isinstance(node, (ast.While, ast.For)):
                    self.assertEqual(node.orelse, [])
                if isinstance(node, ast.Constant):
                    self.assertIn(type(node.value), (int, str, bool, type(None)))

    def test_imports(self):
        for path in FILES:
            for node in nodes(path, ast.ImportFrom):
                self.assertEqual(node.level, 0)
                self.assertRegex(node.module, r"^wordkeysdesk\.[a-z0-9_]+$")
                source = PACKAGE / (node.module.split(".")[1] + ".py")
                defined = bound_names(source) - {name.name for name in nodes(source, ast.alias)}
                self.assertLessEqual({name.name for name in node.names}, defined)

    def test_names(self):
        for path in FILES:
            bound = bound_names(path)
            self.assertEqual(bound & set(dir(builtins)), set(), path.name)
            for node in nodes(path, ast.Name):
                self.assertIn(node.id, bound | PYTHONS_OWN)
                self.assertRegex(node.id, r"^[A-Za-z][A-Za-z0-9_]*$")

    def test_each_name_once_at_the_top(self):
        for path in FILES:
            names = []
            for node in ast.parse(path.read_text()).body:
                if isinstance(node, (ast.FunctionDef, ast.ClassDef)):
                    names.append(node.name)
                if isinstance(node, ast.Assign):
                    names.extend(target.id for target in node.targets)
                if isinstance(node, ast.ImportFrom):
                    names.extend(name.asname or name.name for name in node.names)
            self.assertEqual(len(names), len(set(names)), path.name)

    def test_no_two_files_draw_from_one_another(self):
        draws = {path.stem: {node.module.split(".")[1] for node in nodes(path, ast.ImportFrom)} for path in FILES}
        while draws:
            free = [name for name in draws if not draws[name] & set(draws)]
            self.assertTrue(free, draws)
            for name in free:
                draws.pop(name)

    def test_statements_that_are_only_a_value(self):
        for path in FILES:
            values = [node for node in nodes(path, ast.Expr) if not isinstance(node.value, ast.Call)]
            self.assertEqual([node.lineno for node in values], [1], path.name)

    def test_walked_at_once(self):
        for path in FILES:
            walked = [node.iter for node in nodes(path, (ast.For, ast.comprehension))]
            for call in nodes(path, ast.Call):
                if isinstance(call.func, ast.Name) and call.func.id in WALKING:
                    walked.extend(call.args[:1])
            places = [(node.lineno, node.col_offset) for node in walked]
            for call in nodes(path, ast.Call):
                name = call.func.id if isinstance(call.func, ast.Name) else call.func.attr
                if name in WALKED:
                    self.assertIn((call.lineno, call.col_offset), places, path.name)

    def test_is_and_powers_and_texts(self):
        for path in FILES:
            self.assertEqual(nodes(path, ast.Pow), [])
            for node in nodes(path, ast.Compare):
                for sign, value in zip(node.ops, node.comparators):
                    if isinstance(sign, (ast.Is, ast.IsNot)):
                        self.assertIsInstance(value, ast.Constant)
                        self.assertIn(type(value.value), (type(None), bool))
            for node in nodes(path, ast.Constant):
                self.assertFalse(isinstance(node.value, str) and "%" in node.value)

    def test_methods_and_values(self):
        self.assertEqual(own_methods() & own_values(), set())
        foreign = {name for kind in (str, int, list, dict, set, bytes) for name in dir(kind)}
        self.assertEqual((own_methods() - {"__init__"}) & foreign, set())
        self.assertEqual(own_values() & foreign, set())
        for path in FILES:
            for node in nodes(path, ast.Attribute):
                self.assertIn(node.attr, METHODS | own_methods() | own_values())


if __name__ == "__main__":
    unittest.main()

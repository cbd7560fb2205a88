"""The package's files keep to the small part of Python that they are to be written in."""

import ast
import builtins
import pathlib
import re
import unittest

PACKAGE = pathlib.Path(__file__).resolve().parent.parent / "childkeep"

NODES = (
    "Module FunctionDef ClassDef arguments arg Return Assign AugAssign For While If Raise Try ExceptHandler Expr "
    "Pass Break Continue BoolOp BinOp UnaryOp Lambda IfExp Dict ListComp comprehension Compare Call Constant "
    "Attribute Subscript Slice Name List Tuple keyword Load Store And Or Add Sub Mult FloorDiv Mod LShift RShift "
    "BitOr BitXor BitAnd Not USub Invert Eq NotEq Lt LtE Gt GtE Is IsNot In NotIn"
).split()
OWN_NAMES = (
    "len range enumerate zip min max sum abs sorted reversed int str bool list tuple dict isinstance any all divmod "
    "Exception ValueError KeyError ZeroDivisionError"
).split()
OWN_METHODS = (
    "append clear copy count extend get index insert items keys pop remove reverse setdefault update values"
).split()
WORDS_NOT_USED = (
    r"\b(type|typing|typing_extensions|enum|Enum|IntEnum|StrEnum|Flag|IntFlag|Generic|Protocol|ABC|ABCMeta|"
    r"namedtuple|NamedTuple|TypedDict|TYPE_CHECKING|abstractmethod)\b|dataclass|overload|contextmanager"
)


def files():
    return sorted(path for path in PACKAGE.rglob("*") if path.is_file() and "__pycache__" not in path.parts)


def nodes_of(path):
    return list(ast.walk(ast.parse(path.read_text(encoding="utf-8"))))


class Language(unittest.TestCase):
    def each_node(self):
        for path in files():
            for node in nodes_of(path):
                yield node, f"{path.name}:{getattr(node, 'lineno', 0)}"

    def test_files(self):
        self.assertEqual([path.name for path in files()], ["__init__.py", "keeper.py"])

    def test_signs_and_sizes(self):
        for path in files():
            text = path.read_text(encoding="utf-8")
            self.assertRegex(text, r"\A[ -~\n]*\Z")
            self.assertNotRegex(text, WORDS_NOT_USED)
            rows = text.splitlines()
            self.assertLessEqual(len(rows), 400)
            self.assertLessEqual(max(len(text_row) for text_row in rows), 120)

    def test_only_the_allowed_forms_and_no_import(self):
        for node, place in self.each_node():
            self.assertIn(node.__class__.__name__, NODES, place)

    def test_functions_and_assignments(self):
        for node, place in self.each_node():
            if isinstance(node, ast.FunctionDef):
                self.assertLessEqual(node.end_lineno - node.lineno + 1, 40, place)
                self.assertFalse(node.decorator_list or node.args.vararg or node.args.kwarg or node.args.kwonlyargs)
            if isinstance(node, ast.Assign):
                self.assertEqual(len(node.targets), 1, place)
            if isinstance(node, (ast.For, ast.While)):
                self.assertFalse(node.orelse, place)

    def test_names(self):
        for node, place in self.each_node():
            name = getattr(node, "id", None) or getattr(node, "attr", None) or getattr(node, "name", None) or "plain"
            self.assertTrue(re.fullmatch(r"[A-Za-z][A-Za-z0-9_]*|__init__", name), place)
            if isinstance(node, ast.Name) and hasattr(builtins, node.id):
                self.assertIn(node.id, OWN_NAMES, place)
                self.assertIsInstance(node.ctx, ast.Load, place)

    def test_methods_of_pythons_own_values(self):
        own = {node.name for node, place in self.each_node() if isinstance(node, ast.FunctionDef)}
        for node, place in self.each_node():
            if isinstance(node, ast.Call) and isinstance(node.func, ast.Attribute) and node.func.attr not in own:
                self.assertIn(node.func.attr, OWN_METHODS, place)

    def test_no_name_is_a_method_and_a_value(self):
        methods = set()
        values = set()
        for node, place in self.each_node():
            if isinstance(node, ast.ClassDef):
                methods |= {part.name for part in node.body if isinstance(part, ast.FunctionDef)}
            if isinstance(node, ast.Attribute) and isinstance(node.ctx, ast.Store):
                values.add(node.attr)
        self.assertEqual(methods & values, set())

    def test_the_top_of_a_file_gives_each_name_one_plain_value(self):
        for path in files():
            names = []
            for part in ast.parse(path.read_text(encoding="utf-8")).body:
                self.assertIsInstance(part, (ast.Expr, ast.Assign, ast.FunctionDef, ast.ClassDef))
                if isinstance(part, ast.Assign):
                    ast.literal_eval(part.value)
                    names.append(part.targets[0].id)
                elif not isinstance(part, ast.Expr):
                    names.append(part.name)
            self.assertEqual(len(names), len(set(names)))


if __name__ == "__main__":
    unittest.main()

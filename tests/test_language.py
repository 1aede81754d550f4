"""The part of Python that the package keeps to, as far as a look at its files can tell."""

import ast
import builtins
import pathlib
import re
import unittest

PACKAGE = pathlib.Path(__file__).resolve().parent.parent / "guestkeeper"
FILES = sorted(PACKAGE.glob("*.py"))

NODES = """Module FunctionDef ClassDef Return Assign AugAssign For While If Raise Try ExceptHandler ImportFrom Expr
Pass Break Continue BoolOp BinOp UnaryOp IfExp Dict ListComp Compare Call Constant Attribute Subscript Name
List Tuple Slice comprehension arguments arg alias Load Store And Or Add Sub Mult Mod Pow LShift RShift BitOr BitXor
BitAnd FloorDiv Invert Not UAdd USub Eq NotEq Lt LtE Gt GtE Is IsNot In NotIn""".split()
BUILTINS = """len range enumerate zip min max sum abs sorted reversed int str bool list tuple dict set isinstance ord
repr any all divmod""".split()
WORDS = """type typing typing_extensions enum Enum IntEnum StrEnum Flag IntFlag Generic Protocol ABC ABCMeta namedtuple
NamedTuple TypedDict TYPE_CHECKING abstractmethod""".split()
NOT_NAMES = """register mro elements open input version_info with_traceback add_note attrgetter breakpoint compile
delattr dir eval exec exit gc getattr globals hasattr help id importlib license locals methodcaller os quit setattr
super vars sys format format_map""".split()
OWN_METHODS = """append clear copy count endswith extend find get index insert items join keys pop remove replace
reverse setdefault split startswith strip update values bit_length""".split()


def trees():
    return [(path.name, ast.parse(path.read_text())) for path in FILES]


def all_nodes():
    return [(name, node) for name, tree in trees() for node in ast.walk(tree)]


def plain(node, functions):
    if isinstance(node, (ast.List, ast.Tuple)):
        return all(plain(part, functions) for part in node.elts)
    if isinstance(node, ast.UnaryOp):
        return isinstance(node.op, ast.USub) and plain(node.operand, functions)
    return isinstance(node, ast.Constant) or (isinstance(node, ast.Name) and node.id in functions)


class LanguageTest(unittest.TestCase):
    def test_files(self):
        kept = [path.name for path in PACKAGE.iterdir() if path.name != "__pycache__"]
        self.assertEqual(sorted(kept), [path.name for path in FILES])
        self.assertIn("__init__.py", kept)
        for path in FILES:
            text = path.read_text()
            self.assertRegex(path.name, r"^[a-z0-9_]+\.py$")
            self.assertLessEqual(len(text.splitlines()), 400, path)
            for line in text.splitlines():
                self.assertRegex(line, r"^[ -~]{0,120}$", path)
            for banned in WORDS:
                self.assertIsNone(re.search(rf"\b{banned}\b", text), (path, banned))

    def test_statements_and_expressions(self):
        for name, node in all_nodes():
            self.assertIn(type(node).__name__, NODES, (name, getattr(node, "lineno", 0)))
            if isinstance(node, ast.Assign):
                self.assertEqual((len(node.targets), isinstance(node.targets[0], ast.Tuple)), (1, False), name)
            if isinstance(node, (ast.For, ast.While)):
                self.assertEqual(node.orelse, [], name)
            if isinstance(node, ast.Expr) and not isinstance(node.value, ast.Call):
                self.assertIsInstance(node.value, ast.Constant, name)
            if isinstance(node, ast.Constant):
                self.assertIn(type(node.value), (int, str, bool, type(None)), name)

    def test_functions(self):
        for name, node in all_nodes():
            if isinstance(node, ast.FunctionDef):
                self.assertLessEqual(node.end_lineno - node.lineno + 1, 40, (name, node.name))
                self.assertEqual((node.decorator_list, node.args.vararg, node.args.kwarg, node.args.kwonlyargs),
                                 ([], None, None, []), (name, node.name))
            if isinstance(node, ast.ClassDef):
                self.assertTrue(all(isinstance(part, ast.FunctionDef) for part in node.body), (name, node.name))

    def test_the_top_of_a_module(self):
        for name, tree in trees():
            functions = []
            for node in tree.body:
                if isinstance(node, ast.FunctionDef):
                    functions.append(node.name)
                elif isinstance(node, ast.ImportFrom):
                    self.assertRegex(node.module, r"^guestkeeper\.", name)
                    self.assertEqual(node.level, 0, name)
                elif isinstance(node, ast.Assign):
                    self.assertTrue(plain(node.value, functions), (name, node.lineno))

    def test_names(self):
        for name, node in all_nodes():
            if isinstance(node, ast.Name):
                self.assertRegex(node.id, r"^[A-Za-z]", name)
                self.assertNotIn(node.id, NOT_NAMES, name)
                if hasattr(builtins, node.id):
                    self.assertIn(node.id, BUILTINS, name)
                    self.assertIsInstance(node.ctx, ast.Load, (name, node.id))
            if isinstance(node, (ast.arg, ast.FunctionDef, ast.ClassDef)):
                called = node.arg if isinstance(node, ast.arg) else node.name
                if called != "__init__":
                    self.assertFalse(hasattr(builtins, called), (name, called))
                    self.assertRegex(called, r"^[A-Za-z]", name)

    def test_methods_and_values(self):
        methods = {part.name for name, node in all_nodes() if isinstance(node, ast.ClassDef) for part in node.body}
        values = {node.attr for name, node in all_nodes()
                  if isinstance(node, ast.Attribute) and isinstance(node.ctx, ast.Store)}
        self.assertEqual(methods & values, set())
        used = {node.attr for name, node in all_nodes() if isinstance(node, ast.Attribute)}
        self.assertEqual(used - methods - values - set(OWN_METHODS), set())
        python = {called for kind in (int, str, list, dict, set, bytes) for called in dir(kind)}
        self.assertEqual((methods | values) & python - {"__init__"}, set())


if __name__ == "__main__":
    unittest.main()

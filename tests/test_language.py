"""The rules of LANGUAGE.md that can be told from the files alone, as far as a short test goes."""

import ast
import builtins
import pathlib
import re
import unittest

PACKAGE = pathlib.Path(__file__).resolve().parent.parent / "roomdesk"
FILES = sorted(path for path in PACKAGE.rglob("*") if "__pycache__" not in path.parts and path.is_file())

NODES = """Module Expr Constant Assign AugAssign Name Load Store FunctionDef arguments arg ClassDef Return If While For
Break Continue Pass Raise Try ExceptHandler Call keyword Attribute Subscript Slice List Tuple Dict ListComp comprehension
BinOp UnaryOp BoolOp Compare IfExp Lambda JoinedStr FormattedValue ImportFrom alias Add Sub Mult FloorDiv Mod Pow BitAnd
BitOr BitXor LShift RShift Invert USub UAdd Not And Or Eq NotEq Lt LtE Gt GtE Is IsNot In NotIn""".split()
OWN_NAMES = """len range enumerate zip min max sum abs sorted reversed int str bool list tuple dict set frozenset isinstance
ord repr any all divmod Exception ValueError TypeError KeyError IndexError LookupError ZeroDivisionError ArithmeticError
OverflowError RuntimeError NotImplementedError StopIteration""".split()
METHODS = """append clear copy count endswith extend find get index insert isalnum isalpha isdigit islower isspace isupper
items join keys ljust lower lstrip partition pop remove replace reverse rfind rjust rpartition rsplit rstrip setdefault split
splitlines startswith strip update upper values zfill bit_length""".split()
NO_WORDS = """type typing typing_extensions enum Enum IntEnum StrEnum Flag IntFlag Generic Protocol ABC ABCMeta namedtuple
NamedTuple TypedDict TYPE_CHECKING abstractmethod register mro elements open input""".split()


def bound_names(tree):
    for node in ast.walk(tree):
        if isinstance(node, (ast.FunctionDef, ast.ClassDef)):
            yield node.name
        elif isinstance(node, ast.arg):
            yield node.arg
        elif isinstance(node, ast.Name) and isinstance(node.ctx, ast.Store):
            yield node.id
        elif isinstance(node, ast.Attribute) and isinstance(node.ctx, ast.Store):
            yield node.attr


def check_signs_and_size(case, text, tree):
    case.assertRegex(text, r"\A[ -~\n]*\Z")
    case.assertLessEqual(len(text.splitlines()), 400)
    case.assertLessEqual(max(len(line) for line in text.splitlines()), 120)
    for node in ast.walk(tree):
        if isinstance(node, ast.FunctionDef):
            case.assertLessEqual(node.end_lineno - node.lineno + 1, 40, node.name)


def check_words(case, text, tree):
    case.assertEqual(sorted(set(re.findall(r"\w+", text)) & set(NO_WORDS)), [])


def check_forms(case, text, tree):
    for node in ast.walk(tree):
        case.assertIn(type(node).__name__, NODES)
        if isinstance(node, ast.Constant):
            case.assertIn(type(node.value), (int, str, bool, type(None)), node.lineno)
        if isinstance(node, ast.Assign):
            case.assertEqual(len(node.targets), 1, node.lineno)
        if isinstance(node, (ast.FunctionDef, ast.ClassDef)):
            case.assertEqual(node.decorator_list, [])
        if isinstance(node, (ast.For, ast.While)):
            case.assertEqual(node.orelse, [])
        if isinstance(node, ast.ListComp):
            case.assertEqual(len(node.generators), 1)


def check_names(case, text, tree):
    for name in bound_names(tree):
        if name != "__init__":
            case.assertRegex(name, r"^[A-Za-z][A-Za-z0-9_]*$")
        case.assertFalse(name in dir(builtins), name)
    for node in ast.walk(tree):
        if isinstance(node, ast.Name) and node.id in dir(builtins):
            case.assertIn(node.id, OWN_NAMES, node.lineno)
        if isinstance(node, ast.Call) and isinstance(node.func, ast.Attribute):
            case.assertIn(node.func.attr, METHODS, node.lineno)


def check_imports(case, text, tree):
    for node in ast.walk(tree):
        if isinstance(node, ast.ImportFrom):
            case.assertEqual(node.level, 0)
            case.assertIn(node, tree.body)
            source = PACKAGE.parent / (node.module.replace(".", "/") + ".py")
            case.assertIn(source, FILES)
            defined = [top.name for top in ast.parse(source.read_text()).body if hasattr(top, "name")]
            for alias in node.names:
                case.assertIn(alias.name, defined)


class Language(unittest.TestCase):
    def test_files(self):
        self.assertIn(PACKAGE / "__init__.py", FILES)
        for path in FILES:
            self.assertRegex(path.name, r"^(__init__|[a-z][a-z0-9_]*)\.py$")

    def test_what_stands_in_them(self):
        for path in FILES:
            text = path.read_text(encoding="utf-8")
            for check in (check_signs_and_size, check_words, check_forms, check_names, check_imports):
                with self.subTest(file=path.name, check=check.__name__):
                    check(self, text, ast.parse(text))


if __name__ == "__main__":
    unittest.main()

"""The parts of the language rules that are easily broken without being seen."""

import ast
import builtins
import pathlib
import re
import unittest

import partsandsets

FOLDER = pathlib.Path(partsandsets.__file__).parent
FILES = sorted(FOLDER.glob("*.py"))
NEVER_SAID = re.compile(r"\b(type|typing|typing_extensions|enum|Enum|IntEnum|StrEnum|Flag|IntFlag|Generic|Protocol"
                        r"|ABC|ABCMeta|namedtuple|NamedTuple|TypedDict|TYPE_CHECKING|abstractmethod)\b"
                        r"|dataclass|overload|contextmanager")
ALLOWED = (ast.Module, ast.ImportFrom, ast.alias, ast.FunctionDef, ast.ClassDef, ast.arguments, ast.arg, ast.Assign,
           ast.AugAssign, ast.If, ast.While, ast.For, ast.Return, ast.Break, ast.Continue, ast.Pass, ast.Raise,
           ast.Try, ast.ExceptHandler, ast.Expr, ast.Constant, ast.List, ast.Tuple, ast.Dict, ast.BinOp, ast.UnaryOp,
           ast.BoolOp, ast.Compare, ast.IfExp, ast.Call, ast.Attribute, ast.Subscript, ast.Slice, ast.ListComp,
           ast.comprehension, ast.Name, ast.Lambda, ast.expr_context, ast.operator, ast.unaryop, ast.boolop,
           ast.cmpop, ast.keyword)
OWN_NAMES = ("len range enumerate zip min max sum abs sorted reversed int str bool list tuple dict set frozenset "
             "isinstance ord repr any all divmod Exception ValueError TypeError KeyError IndexError LookupError "
             "ZeroDivisionError ArithmeticError OverflowError RuntimeError NotImplementedError AttributeError "
             "StopIteration").split()
OWN_METHODS = ("append clear copy count endswith extend find get index insert isalnum isalpha isdigit islower isspace "
               "isupper items join keys ljust lower lstrip partition pop remove replace reverse rfind rjust rpartition "
               "rsplit rstrip setdefault split splitlines startswith strip update upper values zfill "
               "bit_length").split()
KEYWORDS = {"sorted": ("key", "reverse"), "min": ("key", "default"), "max": ("key", "default"), "sum": ("start",),
            "enumerate": ("start",), "zip": ("strict",)}
WALKED = ("zip", "enumerate", "reversed", "range")


def nodes():
    """Each node of the package's code, with where it stands."""
    for file in FILES:
        for node in ast.walk(ast.parse(file.read_text(encoding="utf-8"))):
            yield node, (file.name, getattr(node, "lineno", 0))


def bound_names():
    """Each name that the package itself gives a meaning, with where."""
    for node, where in nodes():
        if isinstance(node, ast.Name) and isinstance(node.ctx, ast.Store):
            yield node.id, where
        if isinstance(node, ast.arg):
            yield node.arg, where
        if isinstance(node, (ast.FunctionDef, ast.ClassDef)):
            yield node.name, where


def drawn_from(file):
    """The files of the package that this file imports from."""
    tree = ast.parse(file.read_text(encoding="utf-8"))
    return {node.module.split(".")[1] for node in tree.body if isinstance(node, ast.ImportFrom)}


class Language(unittest.TestCase):
    def test_only_python_files_lie_in_the_package(self):
        others = [each.name for each in FOLDER.iterdir() if each.suffix != ".py" and each.name != "__pycache__"]
        self.assertEqual(others, [])
        self.assertIn("things.py", [each.name for each in FILES])

    def test_signs_words_and_lengths(self):
        for file in FILES:
            text = file.read_text(encoding="utf-8")
            lines = text.split("\n")
            self.assertTrue(all(sign == "\n" or " " <= sign <= "~" for sign in text), file.name)
            self.assertIsNone(NEVER_SAID.search(text), file.name)
            self.assertLessEqual(len(lines), 400, file.name)
            self.assertLessEqual(max(len(line) for line in lines), 120, file.name)

    def test_statements_and_expressions(self):
        for node, where in nodes():
            self.assertIsInstance(node, ALLOWED, where)
            self.assertNotIsInstance(node, (ast.Div, ast.MatMult, ast.Pow), where)
            if isinstance(node, ast.ImportFrom):
                self.assertTrue(node.level == 0 and node.module.startswith("partsandsets."), where)
            if isinstance(node, ast.FunctionDef):
                self.assertLessEqual(node.end_lineno - node.lineno + 1, 40, where)
                self.assertEqual(node.decorator_list, [], where)
            if isinstance(node, ast.Assign):
                self.assertEqual(len(node.targets), 1, where)
                self.assertNotIsInstance(node.targets[0], (ast.Tuple, ast.List), where)
            if isinstance(node, (ast.For, ast.While)):
                self.assertEqual(node.orelse, [], where)
            if isinstance(node, ast.ListComp):
                self.assertEqual(len(node.generators), 1, where)
                self.assertLessEqual(len(node.generators[0].ifs), 1, where)
            if isinstance(node, ast.Constant):
                self.assertIn(node.value.__class__, (int, str, bool, None.__class__), where)
            if isinstance(node, ast.Compare) and isinstance(node.ops[0], (ast.Is, ast.IsNot)):
                self.assertIsInstance(node.comparators[0], ast.Constant, where)

    def test_names_are_plain_and_none_is_pythons_own(self):
        for name, where in bound_names():
            if name != "__init__":
                self.assertRegex(name, "^[A-Za-z][A-Za-z0-9_]*$", where)
                self.assertFalse(hasattr(builtins, name), (name, where))

    def test_of_pythons_own_names_and_methods_only_those_allowed(self):
        own = {name for name, where in bound_names()}
        for node, where in nodes():
            if isinstance(node, ast.Name) and hasattr(builtins, node.id):
                self.assertIn(node.id, OWN_NAMES, where)
            if isinstance(node, ast.Call) and isinstance(node.func, ast.Attribute):
                self.assertTrue(node.func.attr in OWN_METHODS or node.func.attr in own, (node.func.attr, where))
            if isinstance(node, ast.Call) and isinstance(node.func, ast.Name):
                for keyword in node.keywords:
                    self.assertIn(keyword.arg, KEYWORDS.get(node.func.id, ()), where)

    def test_a_walk_is_not_kept(self):
        for node, where in nodes():
            if isinstance(node, (ast.Assign, ast.Return)) and isinstance(node.value, ast.Call):
                self.assertNotIn(getattr(node.value.func, "id", ""), WALKED, where)

    def test_no_two_files_draw_from_one_another(self):
        left = {file.stem: drawn_from(file) for file in FILES}
        while left:
            free = [name for name in left if not left[name] & set(left)]
            self.assertTrue(free, left)
            for name in free:
                del left[name]


if __name__ == "__main__":
    unittest.main()

"""The parts of the language rules that are easily broken without being seen."""

import ast
import pathlib
import re
import unittest

import partsandsets

FOLDER = pathlib.Path(partsandsets.__file__).parent
FILES = sorted(FOLDER.glob("*.py"))
NEVER_SAID = re.compile(r"\b(type|typing|typing_extensions|enum|Enum|IntEnum|StrEnum|Flag|IntFlag|Generic|Protocol"
                        r"|ABC|ABCMeta|namedtuple|NamedTuple|TypedDict|TYPE_CHECKING|abstractmethod)\b"
                        r"|dataclass|overload|contextmanager")
ALLOWED = (ast.Module, ast.ImportFrom, ast.alias, ast.FunctionDef, ast.ClassDef, ast.arguments, ast.arg, ast.Assign,
           ast.AugAssign, ast.If, ast.While, ast.For, ast.Return, ast.Break, ast.Continue, ast.Pass, ast.Raise,
           ast.Try, ast.ExceptHandler, ast.Expr, ast.Constant, ast.List, ast.Tuple, ast.Dict, ast.BinOp, ast.UnaryOp,
           ast.BoolOp, ast.Compare, ast.IfExp, ast.Call, ast.Attribute, ast.Subscript, ast.Slice, ast.ListComp,
           ast.comprehension, ast.Name, ast.Lambda, ast.expr_context, ast.operator, ast.unaryop, ast.boolop,
           ast.cmpop)


class Language(unittest.TestCase):
    def test_only_python_files_lie_in_the_package(self):
        others = [each.name for each in FOLDER.iterdir() if each.suffix != ".py" and each.name != "__pycache__"]
        self.assertEqual(others, [])
        self.assertIn("things.py", [each.name for each in FILES])

    def test_signs_words_and_lengths(self):
        for file in FILES:
            text = file.read_text(encoding="utf-8")
            lines = text.split("\n")
            self.assertTrue(all(sign == "\n" or " " <= sign <= "~" for sign in text), file.name)
            self.assertIsNone(NEVER_SAID.search(text), file.name)
            self.assertLessEqual(len(lines), 400, file.name)
            self.assertLessEqual(max(len(line) for line in lines), 120, file.name)

    def test_statements_and_expressions(self):
        for file in FILES:
            for node in ast.walk(ast.parse(file.read_text(encoding="utf-8"))):
                where = (file.name, getattr(node, "lineno", 0))
                self.assertIsInstance(node, ALLOWED, where)
                self.assertNotIsInstance(node, (ast.Div, ast.MatMult), where)
                if isinstance(node, ast.ImportFrom):
                    self.assertTrue(node.level == 0 and node.module.startswith("partsandsets."), where)
                if isinstance(node, ast.FunctionDef):
                    self.assertLessEqual(node.end_lineno - node.lineno + 1, 40, where)
                    self.assertEqual(node.decorator_list, [], where)
                if isinstance(node, ast.Assign):
                    self.assertEqual(len(node.targets), 1, where)
                    self.assertNotIsInstance(node.targets[0], (ast.Tuple, ast.List), where)


if __name__ == "__main__":
    unittest.main()

"""The package's files keep to the part of Python that they are written in.

What a look at the syntax tree and the signs can tell is tested here; the rules' numbers stand by each test.
"""

import ast
import builtins
import pathlib
import re
import unittest

PACKAGE = pathlib.Path(__file__).resolve().parent.parent / "bestplaces"

STATEMENTS = (ast.Module, ast.FunctionDef, ast.ClassDef, ast.Assign, ast.AugAssign, ast.If, ast.While, ast.For,
              ast.Return, ast.Break, ast.Continue, ast.Pass, ast.Raise, ast.Expr, ast.ImportFrom)
EXPRESSIONS = (ast.Constant, ast.List, ast.Tuple, ast.Dict, ast.BinOp, ast.UnaryOp, ast.BoolOp, ast.Compare,
               ast.IfExp, ast.Call, ast.Attribute, ast.Subscript, ast.Slice, ast.ListComp, ast.Lambda, ast.Name)
PARTS = (ast.operator, ast.unaryop, ast.boolop, ast.cmpop, ast.expr_context, ast.arguments, ast.arg, ast.keyword,
         ast.comprehension, ast.alias)
OWN_NAMES = set("len range enumerate zip min max sum abs sorted reversed int str bool list tuple dict set frozenset "
                "isinstance ord repr any all divmod Exception ValueError TypeError KeyError IndexError LookupError "
                "ZeroDivisionError ArithmeticError OverflowError RuntimeError NotImplementedError".split())
METHODS = set("append clear copy count endswith extend find get index insert isalnum isalpha isdigit islower isspace "
              "isupper items join keys ljust lower lstrip partition pop remove replace reverse rfind rjust rpartition "
              "rsplit rstrip setdefault split splitlines startswith strip update upper values zfill "
              "bit_length".split())
WORDS = set("type typing typing_extensions enum Enum IntEnum StrEnum Flag IntFlag Generic Protocol ABC ABCMeta "
            "namedtuple NamedTuple TypedDict TYPE_CHECKING abstractmethod register mro elements open input".split())


def files():
    return sorted(path for path in PACKAGE.iterdir() if path.name != "__pycache__")


def trees():
    return [(path.name, ast.parse(path.read_text(encoding="utf-8"))) for path in files()]


def nodes(kind):
    return [(name, node) for name, tree in trees() for node in ast.walk(tree) if isinstance(node, kind)]


class Language(unittest.TestCase):
    def none_of(self, found):
        self.assertEqual([(name, getattr(node, "lineno", 0), ast.dump(node)) for name, node in found], [])

    def test_files(self):
        """L1, L14"""
        self.assertIn("__init__.py", [path.name for path in files()])
        for path in files():
            self.assertTrue(path.is_file())
            self.assertRegex(path.name, r"^(__init__|__main__|[a-z][a-z0-9_]*)\.py$")

    def test_sizes_and_signs(self):
        """L10, L14, L17"""
        for path in files():
            text = path.read_bytes()
            self.assertTrue(all(sign == 10 or 32 <= sign <= 126 for sign in text), path)
            lines = text.decode("ascii").split("\n")
            self.assertLessEqual(len(lines), 400)
            self.assertLessEqual(max(len(line) for line in lines), 120)
            self.assertEqual(WORDS & set(re.findall(r"\w+", text.decode("ascii"))), set())
        for name, node in nodes(ast.FunctionDef):
            self.assertLessEqual(node.end_lineno - node.lineno + 1, 40, (name, node.name))

    def test_nothing_is_imported_from_outside(self):
        """L2, L16"""
        self.none_of(nodes(ast.Import))
        for name, node in nodes(ast.ImportFrom):
            self.assertEqual(node.level, 0)
            self.assertTrue(node.module.startswith("bestplaces."), node.module)

    def test_statements_and_expressions(self):
        """L6, L7"""
        self.none_of([(name, node) for name, node in nodes(ast.AST)
                      if not isinstance(node, STATEMENTS + EXPRESSIONS + PARTS)])
        self.none_of(nodes((ast.Div, ast.MatMult)))
        self.none_of([(name, node) for name, node in nodes((ast.For, ast.While)) if node.orelse])
        self.none_of([(name, node) for name, node in nodes(ast.Assign) if len(node.targets) != 1])
        self.none_of([(name, node) for name, node in nodes(ast.ListComp)
                      if len(node.generators) != 1 or len(node.generators[0].ifs) > 1])
        self.none_of([(name, node) for name, node in nodes(ast.Constant)
                      if not isinstance(node.value, (int, str, bool, type(None)))])

    def test_texts_by_themselves_stand_at_the_top_alone(self):
        """L3, L5, L6"""
        for name, tree in trees():
            loose = [node for node in ast.walk(tree) if isinstance(node, ast.Expr)
                     and not isinstance(node.value, ast.Call)]
            self.assertEqual(loose, tree.body[:1], name)

    def test_top_of_a_module(self):
        """L3, L15"""
        for name, tree in trees():
            bound = []
            for node in tree.body[1:]:
                self.assertIsInstance(node, (ast.ImportFrom, ast.FunctionDef, ast.ClassDef, ast.Assign))
                if isinstance(node, ast.Assign):
                    self.assertIsInstance(node.value, ast.Constant)
                    bound.append(node.targets[0].id)
                elif not isinstance(node, ast.ImportFrom):
                    bound.append(node.name)
            self.assertEqual(len(bound), len(set(bound)), name)

    def test_functions_and_classes(self):
        """L4, L5, L21"""
        for name, node in nodes((ast.FunctionDef, ast.Lambda)):
            given = node.args
            self.assertFalse(given.vararg or given.kwarg or given.kwonlyargs or given.posonlyargs, name)
            self.assertFalse([arg for arg in given.args if arg.annotation])
        self.none_of([(name, node) for name, node in nodes((ast.FunctionDef, ast.ClassDef)) if node.decorator_list])
        for name, node in nodes(ast.ClassDef):
            self.assertTrue(all(isinstance(part, ast.FunctionDef) for part in node.body), node.name)

    def test_names(self):
        """L8, L12, L15, L17"""
        others = set(dir(builtins)) - OWN_NAMES
        for name, node in nodes(ast.Name):
            self.assertNotIn(node.id, others, (name, node.lineno))
            self.assertFalse(node.id.startswith("_"), (name, node.lineno))
            if isinstance(node.ctx, ast.Store):
                self.assertNotIn(node.id, dir(builtins), (name, node.lineno))
        for name, node in nodes(ast.arg):
            self.assertNotIn(node.arg, dir(builtins), (name, node.lineno))
            self.assertFalse(node.arg.startswith("_"), (name, node.lineno))

    def test_methods(self):
        """L25, L26"""
        own = {node.name for name, node in nodes(ast.FunctionDef)}
        for name, node in nodes(ast.Call):
            if isinstance(node.func, ast.Attribute):
                self.assertIn(node.func.attr, METHODS | own, (name, node.lineno))
        taken = set(dir(str) + dir(int) + dir(list) + dir(dict) + dir(set) + dir(bytes))
        for name, node in nodes(ast.Attribute):
            if isinstance(node.ctx, ast.Store):
                self.assertNotIn(node.attr, taken, (name, node.lineno))

    def test_is_stands_beside_none_true_and_false_alone(self):
        """L20"""
        for name, node in nodes(ast.Compare):
            for operator, right in zip(node.ops, node.comparators):
                if isinstance(operator, (ast.Is, ast.IsNot)):
                    self.assertIsInstance(right, ast.Constant)
                    self.assertIn(right.value, (None, True, False))


if __name__ == "__main__":
    unittest.main()

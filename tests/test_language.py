"""The package keeps to the part of Python that it may use: what of the rules a walk over the code can see."""

import ast
import pathlib
import re
import unittest

PACKAGE = pathlib.Path(__file__).resolve().parent.parent / "wastenobit"

NODES = (
    ast.Module, ast.FunctionDef, ast.ClassDef, ast.arguments, ast.arg, ast.Assign, ast.AugAssign, ast.If, ast.While,
    ast.For, ast.Return, ast.Break, ast.Continue, ast.Pass, ast.Raise, ast.Expr, ast.Constant, ast.List, ast.Tuple,
    ast.Dict, ast.BinOp, ast.UnaryOp, ast.BoolOp, ast.Compare, ast.IfExp, ast.Call, ast.Attribute, ast.Subscript,
    ast.Slice, ast.ListComp, ast.comprehension, ast.Name, ast.expr_context, ast.operator, ast.unaryop, ast.boolop,
    ast.cmpop,
)
OWN_NAMES = ("len", "range", "min", "max", "reversed")
METHODS = ("append", "extend", "reverse", "bit_length")
WORDS = ("type", "typing", "enum", "Enum", "Generic", "Protocol", "ABC", "namedtuple", "dataclass", "overload",
         "contextmanager")


def trees():
    for file in sorted(PACKAGE.glob("*.py")):
        text = file.read_text(encoding="utf-8")
        yield file.name, text, ast.parse(text)


class Language(unittest.TestCase):

    def test_files(self):
        names = sorted(file.name for file in PACKAGE.iterdir() if file.name != "__pycache__")
        self.assertEqual(names, ["__init__.py", "keep.py"])

    def test_signs_and_sizes(self):
        for name, text, tree in trees():
            self.assertRegex(text, r"\A[ -~\n]*\Z", name)
            rows = text.split("\n")
            self.assertLessEqual(len(rows), 400)
            self.assertLessEqual(max(len(row) for row in rows), 120)
            for node in ast.walk(tree):
                if isinstance(node, ast.FunctionDef):
                    self.assertLessEqual(node.end_lineno - node.lineno + 1, 40, node.name)
            for word in WORDS:
                self.assertIsNone(re.search(rf"\b{word}\b", text), word)

    def test_nothing_is_imported_and_no_other_form_stands_there(self):
        for name, text, tree in trees():
            for node in ast.walk(tree):
                self.assertIsInstance(node, NODES, (name, getattr(node, "lineno", 0)))
                self.assertNotIsInstance(node, (ast.Div, ast.MatMult, ast.Pow, ast.Is, ast.IsNot))
                if isinstance(node, ast.Constant) and not isinstance(node.value, str):
                    self.assertIn(type(node.value), (int, bool, type(None)))
                if isinstance(node, ast.Assign):
                    self.assertEqual(len(node.targets), 1)
                    self.assertNotIsInstance(node.targets[0], (ast.Tuple, ast.List))
                if isinstance(node, (ast.For, ast.While)):
                    self.assertEqual(node.orelse, [])
                if isinstance(node, (ast.FunctionDef, ast.ClassDef)):
                    self.assertEqual(node.decorator_list, [])
                if isinstance(node, ast.FunctionDef):
                    self.assertIsNone(node.args.vararg or node.args.kwarg or node.returns)

    def test_names(self):
        for name, text, tree in trees():
            bound = {node.id for node in ast.walk(tree) if isinstance(node, ast.Name)
                     and isinstance(node.ctx, ast.Store)}
            bound |= {node.arg for node in ast.walk(tree) if isinstance(node, ast.arg)}
            tops = {node.name for node in tree.body if isinstance(node, (ast.FunctionDef, ast.ClassDef))}
            for word in bound | tops:
                self.assertRegex(word, r"\A[A-Za-z][A-Za-z0-9_]*\Z")
                self.assertNotIn(word, dir(__builtins__) if not isinstance(__builtins__, dict) else __builtins__)
            for node in ast.walk(tree):
                if isinstance(node, ast.Name) and isinstance(node.ctx, ast.Load):
                    self.assertIn(node.id, bound | tops | set(OWN_NAMES))

    def test_methods(self):
        for name, text, tree in trees():
            own = {node.name for node in ast.walk(tree) if isinstance(node, ast.FunctionDef)}
            for node in ast.walk(tree):
                if isinstance(node, ast.Call) and isinstance(node.func, ast.Attribute):
                    self.assertIn(node.func.attr, own | set(METHODS))

    def test_no_name_is_a_method_and_a_value(self):
        for name, text, tree in trees():
            methods = {node.name for top in tree.body if isinstance(top, ast.ClassDef) for node in top.body
                       if isinstance(node, ast.FunctionDef)}
            values = {node.attr for node in ast.walk(tree) if isinstance(node, ast.Attribute)
                      and isinstance(node.ctx, ast.Store)}
            self.assertEqual(methods & values, set())

    def test_the_top_of_a_file(self):
        for name, text, tree in trees():
            bound = []
            self.assertIsNotNone(ast.get_docstring(tree))
            for node in tree.body[1:]:
                self.assertIsInstance(node, (ast.Assign, ast.FunctionDef, ast.ClassDef))
                if isinstance(node, ast.Assign):
                    ast.literal_eval(node.value)
                    bound.append(node.targets[0].id)
                else:
                    bound.append(node.name)
            self.assertEqual(len(bound), len(set(bound)))


if __name__ == "__main__":
    unittest.main()

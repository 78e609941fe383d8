"""The package keeps to the small part of Python that it is written in."""

import ast
import builtins
import os
import re
import unittest

PACKAGE = os.path.join(os.path.dirname(os.path.dirname(os.path.abspath(__file__))), "skatingmarks")

NODES = """
Module Expr Constant ImportFrom alias FunctionDef ClassDef arguments arg Return Assign AugAssign
If While For Break Continue Pass Raise Try ExceptHandler Call Name Attribute Subscript Slice List
Tuple Dict Set ListComp comprehension BinOp UnaryOp BoolOp Compare IfExp Lambda JoinedStr
FormattedValue Load Store Add Sub Mult FloorDiv Mod Pow BitAnd BitOr BitXor LShift RShift Invert
USub UAdd Not And Or Eq NotEq Lt LtE Gt GtE Is IsNot In NotIn keyword
""".split()
BUILTINS = """
len range enumerate zip min max sum abs sorted reversed int str bool list tuple dict set frozenset
isinstance ord repr any all divmod Exception ValueError TypeError KeyError IndexError LookupError
ZeroDivisionError ArithmeticError OverflowError RuntimeError NotImplementedError AttributeError
StopIteration
""".split()
METHODS = """
append clear copy count endswith extend find get index insert isalnum isalpha isdigit islower
isspace isupper items join keys ljust lower lstrip partition pop remove replace reverse rfind rjust
rpartition rsplit rstrip setdefault split splitlines startswith strip update upper values zfill
bit_length __init__
""".split()
UNUSED = """
register mro elements open input version_info with_traceback add_note attrgetter breakpoint builtins
compile copyright credits delattr dir eval exec exit gc getattr globals hasattr help id importlib
license locals methodcaller os quit setattr super type vars sys typing enum Enum Flag Generic
Protocol ABC namedtuple NamedTuple TypedDict abstractmethod format format_map args encode
""".split()


def sources():
    """Each file of the package: its name, its text, its tree."""
    found = []
    for name in sorted(os.listdir(PACKAGE)):
        if name != "__pycache__":
            with open(os.path.join(PACKAGE, name), encoding="utf-8", newline="") as file:
                text = file.read()
            found.append((name, text, ast.parse(text)))
    return found


def top_names(tree):
    """The names bound at a file's top, imports left out."""
    names = []
    for node in tree.body:
        if isinstance(node, (ast.FunctionDef, ast.ClassDef)):
            names.append(node.name)
        elif isinstance(node, ast.Assign):
            names.extend(target.id for target in node.targets)
    return names


class Form(unittest.TestCase):
    def each(self, *kinds):
        for name, text, tree in sources():
            for node in ast.walk(tree):
                if isinstance(node, kinds):
                    yield name, node

    def test_files(self):
        names = [name for name, text, tree in sources()]
        self.assertIn("__init__.py", names)
        self.assertIn("contest.py", names)
        for name in names:
            self.assertRegex(name, r"\A(?:[a-z][a-z0-9_]*|__init__)\.py\Z")

    def test_signs_and_sizes(self):
        for name, text, tree in sources():
            self.assertRegex(text, r"\A[ -~\n]*\n\Z", name)
            self.assertLess(text.count("\n"), 400, name)
            self.assertLessEqual(max(len(line) for line in text.split("\n")), 120, name)
        for name, node in self.each(ast.FunctionDef):
            self.assertLessEqual(node.end_lineno - node.lineno + 1, 40, (name, node.name))

    def test_statements_and_expressions(self):
        for name, node in self.each(ast.AST):
            self.assertIn(node.__class__.__name__, NODES, (name, getattr(node, "lineno", 0)))
        for name, node in self.each(ast.Constant):
            self.assertIn(type(node.value), (int, str, bool, type(None)), (name, node.lineno))
            self.assertNotIn("%", str(node.value), (name, node.lineno))
        for name, node in self.each(ast.Assign):
            self.assertEqual(len(node.targets), 1, (name, node.lineno))
        for name, node in self.each(ast.For, ast.While):
            self.assertEqual(node.orelse, [], (name, node.lineno))
        for name, node in self.each(ast.Try):
            self.assertEqual(node.finalbody, [], (name, node.lineno))

    def test_functions_and_classes(self):
        for name, node in self.each(ast.FunctionDef, ast.ClassDef):
            self.assertEqual(node.decorator_list, [], (name, node.lineno))
            self.assertIsNotNone(ast.get_docstring(node) or node.name == "__init__", (name, node.lineno))
        for name, node in self.each(ast.ClassDef):
            self.assertLessEqual(len(node.bases), 1, (name, node.name))
            for part in node.body[1:]:
                self.assertIsInstance(part, ast.FunctionDef, (name, node.name))
        for name, node in self.each(ast.arguments):
            self.assertEqual((node.vararg, node.kwarg, node.kwonlyargs, node.posonlyargs),
                             (None, None, [], []), name)

    def test_top_of_a_file(self):
        for name, text, tree in sources():
            self.assertTrue(ast.get_docstring(tree), name)
            for node in tree.body[1:]:
                self.assertIsInstance(
                    node, (ast.ImportFrom, ast.FunctionDef, ast.ClassDef, ast.Assign), name)
                if isinstance(node, ast.Assign):
                    ast.literal_eval(node.value)
            names = top_names(tree)
            self.assertEqual(len(names), len(set(names)), name)

    def test_imports_come_from_the_file_that_defines_the_name(self):
        defined = {name[:-3]: top_names(tree) for name, text, tree in sources()}
        drawn = {}
        for name, node in self.each(ast.ImportFrom):
            package, point, module = node.module.partition(".")
            self.assertEqual((package, node.level), ("skatingmarks", 0), name)
            for part in node.names:
                self.assertIn(part.name, defined[module], name)
                self.assertIsNone(part.asname, name)
            drawn.setdefault(name[:-3], set()).add(module)
        while drawn:
            ends = [name for name in drawn if not drawn[name] & set(drawn)]
            self.assertTrue(ends, "files draw from one another")
            for name in ends:
                del drawn[name]

    def test_names(self):
        for name, text, tree in sources():
            bound = set(top_names(tree)) | set(BUILTINS)
            for node in ast.walk(tree):
                if isinstance(node, ast.ImportFrom):
                    bound.update(part.name for part in node.names)
                elif isinstance(node, ast.arg):
                    bound.add(node.arg)
                elif isinstance(node, ast.ExceptHandler) and node.name:
                    bound.add(node.name)
                elif isinstance(node, ast.Name) and isinstance(node.ctx, ast.Store):
                    self.assertNotIn(node.id, dir(builtins), name)
                    bound.add(node.id)
            for node in ast.walk(tree):
                if isinstance(node, ast.Name):
                    self.assertIn(node.id, bound, (name, node.lineno))
        for name, node in self.each(ast.Name, ast.Attribute, ast.arg, ast.FunctionDef, ast.ClassDef):
            word = [getattr(node, part) for part in ("id", "attr", "arg", "name") if hasattr(node, part)][0]
            self.assertNotIn(word, UNUSED, (name, node.lineno))
            if word != "__init__":
                self.assertRegex(word, r"\A[A-Za-z][A-Za-z0-9_]*\Z", (name, node.lineno))

    def test_methods_are_not_values(self):
        methods = set()
        values = set()
        for name, node in self.each(ast.ClassDef):
            methods.update(part.name for part in node.body if isinstance(part, ast.FunctionDef))
        for name, node in self.each(ast.Attribute):
            if isinstance(node.ctx, ast.Store):
                values.add(node.attr)
        self.assertEqual(methods & values, set())
        for name, node in self.each(ast.Call):
            if isinstance(node.func, ast.Attribute):
                self.assertIn(node.func.attr, methods | set(METHODS), (name, node.lineno))
        for name, node in self.each(ast.Attribute):
            if isinstance(node.ctx, ast.Load):
                self.assertIn(node.attr, methods | values | set(METHODS), (name, node.lineno))

    def test_interface(self):
        from skatingmarks import contest
        self.assertEqual(re.findall(r"(?m)^def answers\(.*$", sources_text("contest.py")),
                         ["def answers(calls):"])
        self.assertEqual(contest.answers.__module__, "skatingmarks.contest")


def sources_text(wanted):
    return [text for name, text, tree in sources() if name == wanted][0]


if __name__ == "__main__":
    unittest.main()

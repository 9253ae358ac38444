"""The part of Python that the package keeps to, as far as a look at its files tells it."""

import ast
import builtins
import os
import re
import unittest

import abacusbooks

PACKAGE = os.path.dirname(abacusbooks.__file__)
OWN = set("""len range enumerate zip min max sum abs sorted reversed int str bool list tuple dict set frozenset
isinstance ord repr any all divmod Exception ValueError KeyError IndexError LookupError ZeroDivisionError
ArithmeticError OverflowError RuntimeError NotImplementedError AttributeError StopIteration""".split())
METHODS = set("""append clear copy count endswith extend find get index insert isalnum isalpha isdigit islower isspace
isupper items join keys ljust lower lstrip partition pop remove replace reverse rfind rjust rpartition rsplit rstrip
setdefault split splitlines startswith strip update upper values zfill bit_length""".split())
WALKED = {"zip", "enumerate", "reversed", "range", "items", "keys", "values"}
WALKERS = {"list", "tuple", "dict", "sorted", "sum", "any", "all", "enumerate", "zip", "min", "max"}
WORDS = set("""type typing typing_extensions enum Enum IntEnum StrEnum Flag IntFlag Generic Protocol ABC ABCMeta
namedtuple NamedTuple TypedDict TYPE_CHECKING abstractmethod""".split())
STATEMENTS = (ast.Assign, ast.AugAssign, ast.If, ast.While, ast.For, ast.Return, ast.Break, ast.Continue, ast.Pass,
              ast.Raise, ast.Try, ast.Expr, ast.FunctionDef, ast.ClassDef, ast.ImportFrom)
EXPRESSIONS = (ast.Constant, ast.List, ast.Tuple, ast.Dict, ast.BinOp, ast.UnaryOp, ast.BoolOp, ast.Compare, ast.IfExp,
               ast.Call, ast.Attribute, ast.Subscript, ast.Slice, ast.ListComp, ast.Name, ast.Lambda)
FILES = sorted(file for file in os.listdir(PACKAGE) if file != "__pycache__")


def source(file):
    with open(os.path.join(PACKAGE, file), encoding="utf-8", newline="") as opened:
        return opened.read()


def nodes(file, *kinds):
    return [node for node in ast.walk(ast.parse(source(file))) if isinstance(node, kinds)]


def called(call):
    return call.func.id if isinstance(call.func, ast.Name) else call.func.attr


def own_methods():
    return {method.name for file in FILES for written in nodes(file, ast.ClassDef)
            for method in written.body if isinstance(method, ast.FunctionDef)}


def own_values():
    return {node.attr for file in FILES for node in nodes(file, ast.Attribute) if isinstance(node.ctx, ast.Store)}


class Language(unittest.TestCase):
    def test_files(self):
        self.assertIn("__init__.py", FILES)
        for file in FILES:
            self.assertRegex(file, r"\A([a-z][a-z0-9_]*|__init__)\.py\Z")
            self.assertFalse(file[:-3] in vars(builtins) or file.startswith("test"), file)

    def test_signs_words_and_sizes(self):
        for file in FILES:
            lines = source(file).split("\n")
            self.assertLessEqual(len(lines), 401, file)
            for line in lines:
                self.assertRegex(line, r"\A[ -~]{0,120}\Z", file)
                for word in re.findall(r"\w+", line):
                    self.assertNotIn(word, WORDS, file)
                    self.assertNotRegex(word, "dataclass|overload|contextmanager", file)
            for function in nodes(file, ast.FunctionDef):
                self.assertLessEqual(function.end_lineno - function.lineno + 1, 40, function.name)

    def test_statements_and_expressions(self):
        for file in FILES:
            for node in nodes(file, ast.stmt):
                self.assertIsInstance(node, STATEMENTS, file)
            for node in nodes(file, ast.expr):
                self.assertIsInstance(node, EXPRESSIONS, file)
            for node in nodes(file, ast.For, ast.While):
                self.assertEqual(node.orelse, [], file)
            for node in nodes(file, ast.Try):
                self.assertEqual(node.finalbody, [], file)
            for node in nodes(file, ast.Assign):
                self.assertEqual(len(node.targets), 1, file)
            for node in nodes(file, ast.Expr):
                self.assertIsInstance(node.value, (ast.Call, ast.Constant), file)
            for node in nodes(file, ast.ListComp):
                self.assertEqual((len(node.generators), len(node.generators[0].ifs) <= 1), (1, True), file)
            for node in nodes(file, ast.BinOp, ast.AugAssign):
                self.assertNotIsInstance(node.op, (ast.Div, ast.Pow, ast.MatMult), file)
            for node in nodes(file, ast.Constant):
                self.assertIn(type(node.value), (int, str, bool, type(None)), file)

    def test_is_stands_beside_none_alone(self):
        for file in FILES:
            for node in nodes(file, ast.Compare):
                if isinstance(node.ops[0], (ast.Is, ast.IsNot)):
                    self.assertIsInstance(node.comparators[0], ast.Constant, file)

    def test_functions_and_classes(self):
        for file in FILES:
            for function in nodes(file, ast.FunctionDef):
                args = function.args
                self.assertEqual(function.decorator_list + args.kwonlyargs + args.posonlyargs, [], function.name)
                self.assertEqual((args.vararg, args.kwarg, function.returns), (None, None, None), function.name)
            for written in nodes(file, ast.ClassDef):
                self.assertLessEqual(len(written.bases), 1, written.name)
                for member in written.body:
                    docstring = isinstance(member, ast.Expr) and isinstance(member.value, ast.Constant)
                    self.assertTrue(docstring or isinstance(member, ast.FunctionDef), written.name)
        self.assertEqual(own_methods() & own_values(), set())

    def test_names(self):
        for file in FILES:
            tops = [alias.name for node in nodes(file, ast.ImportFrom) for alias in node.names]
            taken = set(tops) | {node.name for node in nodes(file, ast.ClassDef)}
            for node in ast.parse(source(file)).body:
                if isinstance(node, (ast.FunctionDef, ast.ClassDef)):
                    tops.append(node.name)
                elif isinstance(node, ast.Assign):
                    tops.append(node.targets[0].id)
            self.assertEqual(sorted(tops), sorted(set(tops)), file)
            for function in nodes(file, ast.FunctionDef):
                names = {arg.arg for arg in function.args.args}
                names |= {node.id for node in ast.walk(function)
                          if isinstance(node, ast.Name) and isinstance(node.ctx, ast.Store)}
                for name in names:
                    self.assertFalse(name in taken or name in vars(builtins) or name.startswith("_"), (file, name))

    def test_names_of_pythons_own(self):
        free = own_methods() | METHODS
        kept = {name for kind in (str, int, list, dict, set, bytes, tuple) for name in dir(kind)}
        self.assertEqual((own_methods() | own_values()) & (kept - {"__init__"}), set())
        for file in FILES:
            for node in nodes(file, ast.Name):
                self.assertFalse(node.id in vars(builtins) and node.id not in OWN, (file, node.id))
            for node in nodes(file, ast.Call):
                if isinstance(node.func, ast.Attribute):
                    self.assertIn(node.func.attr, free, file)

    def test_walked_at_once(self):
        for file in FILES:
            walked = [node.iter for node in nodes(file, ast.For, ast.comprehension)]
            walked += [node.args[0] for node in nodes(file, ast.Call) if called(node) in WALKERS and node.args]
            places = {(node.lineno, node.col_offset, node.end_col_offset) for node in walked}
            for node in nodes(file, ast.Call):
                if called(node) in WALKED:
                    self.assertIn((node.lineno, node.col_offset, node.end_col_offset), places, file)

    def test_errors(self):
        for file in FILES:
            for node in nodes(file, ast.ExceptHandler):
                self.assertIsInstance(node.type, ast.Name, file)
                self.assertNotIn(node.type.id, OWN - {"KeyError", "ZeroDivisionError", "StopIteration"}, file)
            for node in nodes(file, ast.Raise):
                self.assertIsInstance(node.exc, ast.Call, file)

    def test_imports(self):
        drawn = {}
        for file in FILES:
            drawn[file] = {node.module.split(".", 1)[1] + ".py" for node in nodes(file, ast.ImportFrom)}
            for node in nodes(file, ast.ImportFrom):
                other = ast.parse(source(node.module.split(".", 1)[1] + ".py")).body
                defined = {top.name for top in other if isinstance(top, (ast.FunctionDef, ast.ClassDef))}
                defined |= {top.targets[0].id for top in other if isinstance(top, ast.Assign)}
                for alias in node.names:
                    self.assertIn(alias.name, defined, file)
                    self.assertIsNone(alias.asname, file)
        for file in FILES:
            reached, ahead = set(), {file}
            while ahead:
                ahead = {other for one in ahead for other in drawn[one]} - reached
                reached |= ahead
            self.assertNotIn(file, reached)


if __name__ == "__main__":
    unittest.main()

"""The package's files keep to the part of Python that LANGUAGE.md tells, as far as a text can be asked for it."""

import ast
import pathlib
import re
import unittest

PACKAGE = pathlib.Path(__file__).resolve().parent.parent / "flowrules"

STATEMENTS = (ast.Assign, ast.AugAssign, ast.If, ast.While, ast.For, ast.Return, ast.Break, ast.Continue, ast.Pass,
              ast.Raise, ast.Try, ast.Expr, ast.FunctionDef, ast.ClassDef, ast.ImportFrom)
EXPRESSIONS = (ast.Constant, ast.Name, ast.List, ast.Tuple, ast.Dict, ast.BinOp, ast.UnaryOp, ast.BoolOp, ast.Compare,
               ast.IfExp, ast.Call, ast.Attribute, ast.Subscript, ast.Slice, ast.ListComp, ast.JoinedStr,
               ast.FormattedValue, ast.Lambda)
BUILT_IN = set("""len range enumerate zip min max sum abs sorted reversed int str bool list tuple dict set frozenset
    isinstance ord repr any all divmod Exception ValueError TypeError KeyError IndexError LookupError
    ZeroDivisionError ArithmeticError OverflowError RuntimeError NotImplementedError StopIteration""".split())
METHODS = set("""append clear copy count endswith extend find get index insert isalnum isalpha isdigit islower isspace
    isupper items join keys ljust lower lstrip partition pop remove replace reverse rfind rjust rpartition rsplit
    rstrip setdefault split splitlines startswith strip update upper values zfill bit_length""".split())
PYTHONS_OWN = set(dir(__builtins__ if not isinstance(__builtins__, dict) else __import__("builtins")))
UNUSED_NAMES = set("register mro elements open input version_info with_traceback add_note format format_map".split())
UNUSED_WORDS = re.compile(
    r"\b(type|typing|typing_extensions|enum|Enum|IntEnum|StrEnum|Flag|IntFlag|Generic|Protocol|ABC|ABCMeta|namedtuple"
    r"|NamedTuple|TypedDict|TYPE_CHECKING|abstractmethod)\b|dataclass|overload|contextmanager")


def files():
    return sorted(PACKAGE.glob("*.py"))


def parsed():
    return [(path, ast.parse(path.read_text())) for path in files()]


def nodes():
    return [(f"{path.name}:{getattr(node, 'lineno', 0)}", node) for path, tree in parsed() for node in ast.walk(tree)]


class Files(unittest.TestCase):
    def test_only_plain_files_lie_in_the_package(self):
        lying = [path for path in PACKAGE.iterdir() if path.name != "__pycache__"]
        for path in lying:
            self.assertRegex(path.name, r"^([a-z][a-z0-9_]*|__init__)\.py$")
        self.assertIn(PACKAGE / "__init__.py", lying)
        self.assertIn(PACKAGE / "desk.py", lying)

    def test_sizes_and_signs(self):
        for path in files():
            text = path.read_text()
            self.assertRegex(text, r"\A[ -~\n]*\Z", path.name)
            self.assertIsNone(UNUSED_WORDS.search(text), path.name)
            self.assertLessEqual(len(text.splitlines()), 400, path.name)
            self.assertLessEqual(max([len(row) for row in text.splitlines()]), 120, path.name)

    def test_functions_have_at_most_40_lines(self):
        for where, node in nodes():
            if isinstance(node, ast.FunctionDef):
                self.assertLessEqual(node.end_lineno - node.lineno + 1, 40, where)


class Imports(unittest.TestCase):
    def test_only_the_packages_own_from_the_file_that_defines_the_name(self):
        bound = {}
        for path, tree in parsed():
            bound["flowrules." + path.stem] = [
                node.targets[0].id if isinstance(node, ast.Assign) else node.name for node in tree.body
                if isinstance(node, (ast.Assign, ast.FunctionDef, ast.ClassDef))]
        for path, tree in parsed():
            for node in tree.body:
                if isinstance(node, ast.ImportFrom):
                    for alias in node.names:
                        self.assertIn(alias.name, bound.get(node.module, []), path.name)

    def test_imports_stand_at_the_top_alone(self):
        inside = [node for path, tree in parsed() for top in tree.body for node in ast.walk(top)
                  if isinstance(node, (ast.Import, ast.ImportFrom)) and node is not top]
        self.assertEqual(inside, [])

    def test_no_files_draw_from_one_another(self):
        draws = {"flowrules." + path.stem: [node.module for node in tree.body if isinstance(node, ast.ImportFrom)]
                 for path, tree in parsed()}
        while draws:
            free = [name for name in draws if not set(draws[name]) & set(draws)]
            self.assertNotEqual(free, [], draws)
            draws = {name: draws[name] for name in draws if name not in free}


class Forms(unittest.TestCase):
    def test_statements_and_expressions(self):
        for where, node in nodes():
            if isinstance(node, ast.stmt):
                self.assertIsInstance(node, STATEMENTS, where)
            if isinstance(node, ast.expr):
                self.assertIsInstance(node, EXPRESSIONS, where)
            if isinstance(node, ast.Constant):
                self.assertIn(type(node.value), (int, str, bool, type(None)), where)
            if isinstance(node, ast.Assign):
                self.assertEqual(len(node.targets), 1, where)
                self.assertNotIsInstance(node.targets[0], (ast.Tuple, ast.List), where)
            if isinstance(node, ast.BinOp):
                self.assertNotIsInstance(node.op, (ast.Div, ast.MatMult), where)
            if isinstance(node, (ast.For, ast.While)):
                self.assertEqual(node.orelse, [], where)
            if isinstance(node, ast.ListComp):
                self.assertEqual(len(node.generators), 1, where)
                self.assertLessEqual(len(node.generators[0].ifs), 1, where)
            if isinstance(node, (ast.FunctionDef, ast.ClassDef)):
                self.assertEqual(node.decorator_list, [], where)
            if isinstance(node, ast.arguments):
                self.assertEqual((node.vararg, node.kwarg, node.kwonlyargs, node.posonlyargs), (None, None, [], []))
            if isinstance(node, ast.Compare) and any([isinstance(op, (ast.Is, ast.IsNot)) for op in node.ops]):
                self.assertIn(node.comparators[0].value, (None, True, False), where)

    def test_names_at_a_files_top_are_plain_and_bound_once(self):
        for path, tree in parsed():
            names = []
            for node in tree.body:
                self.assertIsInstance(node, (ast.Expr, ast.ImportFrom, ast.FunctionDef, ast.ClassDef, ast.Assign))
                if isinstance(node, ast.Expr):
                    self.assertIs(node, tree.body[0], path.name)
                elif isinstance(node, ast.ImportFrom):
                    names += [alias.asname or alias.name for alias in node.names]
                elif isinstance(node, ast.Assign):
                    names.append(node.targets[0].id)
                    calls = [part for part in ast.walk(node.value) if isinstance(part, (ast.Call, ast.BinOp))]
                    self.assertEqual(calls, [], path.name)
                else:
                    names.append(node.name)
            self.assertEqual(len(names), len(set(names)), path.name)


class Names(unittest.TestCase):
    def bound_in_the_package(self):
        found = set()
        for where, node in nodes():
            if isinstance(node, (ast.FunctionDef, ast.ClassDef)):
                found.add(node.name)
            if isinstance(node, ast.arg):
                found.add(node.arg)
            if isinstance(node, ast.Name) and isinstance(node.ctx, ast.Store):
                found.add(node.id)
        return found

    def test_names_are_plain_words_and_not_pythons_own(self):
        for name in self.bound_in_the_package() - {"__init__"}:
            self.assertRegex(name, r"^[A-Za-z][A-Za-z0-9_]*$")
            self.assertNotIn(name, PYTHONS_OWN | UNUSED_NAMES)

    def test_only_listed_names_of_pythons_own_are_read(self):
        own = self.bound_in_the_package()
        for where, node in nodes():
            if isinstance(node, ast.Name) and isinstance(node.ctx, ast.Load) and node.id not in own:
                self.assertIn(node.id, BUILT_IN, where)

    def test_only_listed_methods_are_called(self):
        own = self.bound_in_the_package()
        for where, node in nodes():
            if isinstance(node, ast.Call) and isinstance(node.func, ast.Attribute):
                self.assertIn(node.func.attr, METHODS | own, where)

    def test_methods_and_values_of_objects(self):
        methods, values = set(), set()
        for where, node in nodes():
            if isinstance(node, ast.ClassDef):
                methods |= {part.name for part in node.body if isinstance(part, ast.FunctionDef)}
            if isinstance(node, ast.Attribute) and isinstance(node.ctx, ast.Store):
                values.add(node.attr)
        self.assertEqual(methods & values, set())
        pythons = {name for kind in (str, int, list, dict, set, bytes, tuple) for name in dir(kind)}
        self.assertEqual((methods | values) & pythons - {"__init__"}, set())
        self.assertEqual((methods | values) & UNUSED_NAMES, set())


if __name__ == "__main__":
    unittest.main()

"""The package keeps to the part of Python that LANGUAGE.md tells.

Only some rules are looked at here: files, imports, statements, names, sizes, methods. Those of L13, L15 (in part),
L18, L19, L22 to L24 (in part) and L28 are left to the reader.
"""

import ast
import builtins
import pathlib
import re
import unittest

PACKAGE = pathlib.Path(__file__).resolve().parent.parent / "cladebook"

STATEMENTS = (ast.Assign, ast.AugAssign, ast.If, ast.While, ast.For, ast.Return, ast.Break, ast.Continue, ast.Pass,
              ast.Raise, ast.Try, ast.Expr, ast.FunctionDef, ast.ClassDef, ast.ImportFrom)
BARRED = (ast.SetComp, ast.DictComp, ast.GeneratorExp, ast.NamedExpr, ast.Starred, ast.Div, ast.MatMult, ast.Await,
          ast.Yield, ast.YieldFrom, ast.AnnAssign)
BUILT_IN = """len range enumerate zip min max sum abs sorted reversed int str bool list tuple dict set frozenset
isinstance ord repr any all divmod Exception ValueError TypeError KeyError IndexError LookupError ZeroDivisionError
ArithmeticError OverflowError RuntimeError NotImplementedError AttributeError StopIteration""".split()
METHODS = """append clear copy count endswith extend find get index insert isalnum isalpha isdigit islower isspace
isupper items join keys ljust lower lstrip partition pop remove replace reverse rfind rjust rpartition rsplit rstrip
setdefault split splitlines startswith strip update upper values zfill bit_length""".split()
WORDS = """type typing typing_extensions enum Enum IntEnum StrEnum Flag IntFlag Generic Protocol ABC ABCMeta namedtuple
NamedTuple TypedDict TYPE_CHECKING abstractmethod""".split()
UNUSED = """register mro elements open input version_info with_traceback add_note attrgetter breakpoint builtins compile
copyright credits delattr dir eval exec exit gc getattr globals hasattr help id importlib license locals methodcaller os
quit setattr super vars sys format format_map""".split()


def files():
    return sorted(PACKAGE.glob("*.py"))


def parsed():
    return [(path.name, ast.parse(path.read_text("ascii"))) for path in files()]


def nodes(*kinds):
    for name, tree in parsed():
        for found in ast.walk(tree):
            if isinstance(found, kinds):
                yield f"{name}:{getattr(found, 'lineno', '?')}", found


class Files(unittest.TestCase):
    def test_files_alone(self):
        inside = [path for path in PACKAGE.iterdir() if path.name != "__pycache__"]
        self.assertEqual(sorted(inside), files())
        for path in inside:
            self.assertRegex(path.name, r"\A([a-z][a-z0-9_]*|__init__)\.py\Z")
            self.assertFalse(path.stem in dir(builtins), path)

    def test_signs_and_sizes(self):
        for path in files():
            rows = path.read_bytes().decode("ascii").split("\n")
            self.assertLessEqual(len(rows), 401, path)
            for row in rows:
                self.assertRegex(row, r"\A[ -~]{0,120}\Z", path)

    def test_words_that_stand_nowhere(self):
        for path in files():
            words = path.read_text("ascii")
            self.assertEqual(sorted(set(re.findall(r"\w+", words)) & set(WORDS)), [], path)
            self.assertNotRegex(words, "dataclass|overload|contextmanager")

    def test_size_of_functions(self):
        for where, found in nodes(ast.FunctionDef):
            self.assertLessEqual(found.end_lineno - found.lineno + 1, 40, where)


class Statements(unittest.TestCase):
    def test_statements_and_expressions(self):
        for where, found in nodes(ast.stmt):
            self.assertIsInstance(found, STATEMENTS, where)
        for where, found in nodes(*BARRED):
            self.fail(f"{where}: {found}")

    def test_forms(self):
        for where, found in nodes(ast.Assign):
            self.assertEqual(len(found.targets), 1, where)
            self.assertNotIsInstance(found.targets[0], (ast.Tuple, ast.List), where)
        for where, found in nodes(ast.For, ast.While):
            self.assertEqual(found.orelse, [], where)
        for where, found in nodes(ast.ListComp):
            self.assertEqual(len(found.generators), 1, where)
            self.assertLessEqual(len(found.generators[0].ifs), 1, where)
        for where, found in nodes(ast.Expr):
            self.assertIsInstance(found.value, (ast.Call, ast.Constant), where)
        for where, found in nodes(ast.Constant):
            self.assertIn(type(found.value), (int, str, bool, type(None)), where)
        for where, found in nodes(ast.Compare):
            if any(isinstance(sign, (ast.Is, ast.IsNot)) for sign in found.ops):
                self.assertIsInstance(found.comparators[0], ast.Constant, where)
        for where, found in nodes(ast.FunctionDef, ast.ClassDef):
            self.assertEqual(found.decorator_list, [], where)
        for where, found in nodes(ast.arguments):
            self.assertFalse(found.vararg or found.kwarg or found.kwonlyargs or found.posonlyargs, where)
        for where, found in nodes(ast.BinOp):
            if isinstance(found.op, ast.Pow):
                self.assertTrue(isinstance(found.right, ast.Constant) and 0 <= found.right.value <= 64, where)

    def test_top_of_modules(self):
        for name, tree in parsed():
            self.assertIsNotNone(ast.get_docstring(tree), name)
            bound = []
            for found in tree.body[1:]:
                self.assertIsInstance(found, (ast.ImportFrom, ast.Assign, ast.FunctionDef, ast.ClassDef), name)
                if isinstance(found, ast.Assign):
                    ast.literal_eval(found.value)
                    bound.append(found.targets[0].id)
                elif isinstance(found, ast.ImportFrom):
                    bound += [one.name for one in found.names]
                else:
                    bound.append(found.name)
            self.assertEqual(len(bound), len(set(bound)), name)


class Names(unittest.TestCase):
    def test_imports(self):
        drawn = {}
        for name, tree in parsed():
            defined = {path.stem: self.top_names(path) for path in files()}
            for found in ast.walk(tree):
                if isinstance(found, ast.ImportFrom):
                    self.assertEqual(found.level, 0, name)
                    self.assertRegex(found.module, r"\Acladebook\.[a-z]+\Z")
                    source = found.module.split(".")[1]
                    drawn.setdefault(name[:-3], set()).add(source)
                    for one in found.names:
                        self.assertIsNone(one.asname, name)
                        self.assertIn(one.name, defined[source], name)
        # Taking away, again and again, what draws from nothing must leave nothing: else files draw in a ring.
        while drawn:
            free = [name for name in drawn if not any(source in drawn for source in drawn[name])]
            self.assertTrue(free, drawn)
            for name in free:
                drawn.pop(name)

    def top_names(self, path):
        names = []
        for found in ast.parse(path.read_text("ascii")).body:
            if isinstance(found, (ast.FunctionDef, ast.ClassDef)):
                names.append(found.name)
            elif isinstance(found, ast.Assign):
                names.append(found.targets[0].id)
        return names

    def test_names(self):
        for where, found in nodes(ast.Name, ast.arg, ast.FunctionDef, ast.ClassDef):
            name = getattr(found, "id", None) or getattr(found, "arg", None) or found.name
            if name != "__init__":
                self.assertRegex(name, r"\A[A-Za-z][A-Za-z0-9_]*\Z", where)
            self.assertNotIn(name, UNUSED, where)
            if name in dir(builtins):
                self.assertIn(name, BUILT_IN, where)
                self.assertIsInstance(found, ast.Name, where)
                self.assertIsInstance(found.ctx, ast.Load, where)

    def test_locals_are_not_called_like_classes_and_imports(self):
        for name, tree in parsed():
            top = [one.name for found in tree.body if isinstance(found, ast.ImportFrom) for one in found.names]
            top += [found.name for found in tree.body if isinstance(found, (ast.FunctionDef, ast.ClassDef))]
            for found in ast.walk(tree):
                if isinstance(found, ast.arg):
                    self.assertNotIn(found.arg, top, name)
                if isinstance(found, ast.Name) and isinstance(found.ctx, ast.Store):
                    self.assertNotIn(found.id, top, name)

    def test_attributes(self):
        owned = dir(str) + dir(int) + dir(list) + dir(dict) + dir(set) + dir(bytes)
        for where, found in nodes(ast.Attribute):
            self.assertNotIn(found.attr, UNUSED, where)
            if isinstance(found.ctx, ast.Store) or found.attr not in METHODS:
                self.assertNotIn(found.attr, owned, where)

    def test_keywords(self):
        for where, found in nodes(ast.Call):
            for keyword in found.keywords:
                self.assertIn(keyword.arg, ("key", "reverse", "default", "start", "strict"), where)
                self.assertIn(found.func.id, ("sorted", "min", "max", "sum", "enumerate", "zip"), where)


if __name__ == "__main__":
    unittest.main()

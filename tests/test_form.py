"""The package's files keep to the part of Python that they are to be written in (L1 to L28, as far as seen here)."""

import ast
import builtins
import pathlib
import re
import unittest

PACKAGE = pathlib.Path(__file__).resolve().parent.parent / "keptbook"

STATEMENTS = (ast.Assign, ast.AugAssign, ast.If, ast.While, ast.For, ast.Return, ast.Break, ast.Continue, ast.Pass,
              ast.Raise, ast.Try, ast.ExceptHandler, ast.Expr, ast.FunctionDef, ast.ClassDef, ast.ImportFrom)
EXPRESSIONS = (ast.Constant, ast.Name, ast.List, ast.Tuple, ast.Dict, ast.BinOp, ast.UnaryOp, ast.BoolOp, ast.Compare,
               ast.IfExp, ast.Call, ast.Attribute, ast.Subscript, ast.Slice, ast.ListComp, ast.JoinedStr,
               ast.FormattedValue, ast.Lambda)
PARTS = (ast.Module, ast.arguments, ast.arg, ast.comprehension, ast.alias, ast.expr_context, ast.operator,
         ast.unaryop, ast.boolop, ast.cmpop, ast.keyword)
OWN_NAMES = set("""len range enumerate zip min max sum abs sorted reversed int str bool list tuple dict set frozenset
    isinstance ord repr any all divmod Exception ValueError TypeError KeyError IndexError LookupError
    ZeroDivisionError ArithmeticError OverflowError RuntimeError NotImplementedError AttributeError
    StopIteration""".split())
OWN_METHODS = set("""append clear copy count endswith extend find get index insert isalnum isalpha isdigit islower
    isspace isupper items join keys ljust lower lstrip partition pop remove replace reverse rfind rjust rpartition
    rsplit rstrip setdefault split splitlines startswith strip update upper values zfill bit_length""".split())
METHODS_WITH_UNDERSCORES = {"__init__", "__eq__", "__repr__", "__str__", "__len__"}
WORDS = re.compile(
    r"\b(type|typing|typing_extensions|enum|Enum|IntEnum|StrEnum|Flag|IntFlag|Generic|Protocol|ABC|ABCMeta|namedtuple"
    r"|NamedTuple|TypedDict|TYPE_CHECKING|abstractmethod)\b|dataclass|overload|contextmanager")
UNUSED_NAMES = {"register", "mro", "elements", "open", "input", "version_info", "with_traceback", "add_note",
                "attrgetter", "compile", "dir", "eval", "exec", "exit", "gc", "getattr", "globals", "hasattr", "help",
                "id", "importlib", "license", "locals", "methodcaller", "os", "quit", "setattr", "super", "vars", "sys"}
TAKEN = {name for kind in (str, int, list, dict, set, bytes, tuple) for name in dir(kind)}
VALUES_ALLOWED = {"count", "index", "title", "find", "get", "join", "lower", "upper", "split", "strip", "copy", "add"}
WALKED = {"range", "zip", "enumerate", "reversed"}
WALKERS = {"list", "tuple", "dict", "sorted", "sum", "any", "all", "enumerate", "zip", "min", "max"}


def files():
    return sorted(PACKAGE.glob("*.py"))


def trees():
    return [(path, ast.parse(path.read_text(encoding="utf-8"))) for path in files()]


def nodes(kind):
    return [(path, node) for path, tree in trees() for node in ast.walk(tree) if isinstance(node, kind)]


def own_methods():
    return {part.name for path, node in nodes(ast.ClassDef) for part in node.body if isinstance(part, ast.FunctionDef)}


def own_values():
    return {node.attr for path, node in nodes(ast.Attribute) if isinstance(node.ctx, ast.Store)}


class FileTest(unittest.TestCase):
    def test_files_and_signs(self):
        self.assertTrue((PACKAGE / "__init__.py").is_file())
        for path in PACKAGE.iterdir():
            if path.name == "__pycache__":
                continue
            self.assertRegex(path.name, r"^[a-z0-9_]+\.py$")
            self.assertNotIn(path.stem, dir(builtins))
            text = path.read_text(encoding="utf-8")
            self.assertRegex(text, r"\A[ -~\n]*\Z", path.name)
            self.assertLessEqual(len(text.splitlines()), 400, path.name)
            self.assertLessEqual(max([len(row) for row in text.splitlines()]), 120, path.name)
            self.assertIsNone(WORDS.search(text), path.name)

    def test_functions_are_short(self):
        for path, node in nodes(ast.FunctionDef):
            self.assertLessEqual(node.end_lineno - node.lineno + 1, 40, (path.name, node.name))

    def test_imports_are_the_packages_own_and_in_no_ring(self):
        drawn = {path.stem: [] for path in files()}
        for path, tree in trees():
            for node in ast.walk(tree):
                self.assertNotIsInstance(node, ast.Import)
                if isinstance(node, ast.ImportFrom):
                    self.assertIn(node, tree.body)
                    self.assertEqual((node.level, node.module.split(".")[0]), (0, "keptbook"))
                    source = node.module.split(".")[1]
                    drawn[path.stem].append(source)
                    defined = self.top_names(ast.parse((PACKAGE / f"{source}.py").read_text(encoding="utf-8")))
                    for name in node.names:
                        self.assertIn(name.name, defined)
                        self.assertIsNone(name.asname)
        while drawn:
            free = [name for name in drawn if not set(drawn[name]) & set(drawn)]
            self.assertTrue(free, drawn)
            for name in free:
                drawn.pop(name)

    def top_names(self, tree):
        found = []
        for node in tree.body:
            if isinstance(node, (ast.FunctionDef, ast.ClassDef)):
                found.append(node.name)
            if isinstance(node, ast.Assign):
                found.append(node.targets[0].id)
        return found

    def test_each_name_once_at_the_top(self):
        for path, tree in trees():
            imported = [name.name for node in tree.body if isinstance(node, ast.ImportFrom) for name in node.names]
            found = self.top_names(tree) + imported
            self.assertEqual(len(found), len(set(found)), path.name)
            self.assertEqual(set(found) & set(dir(builtins)), set(), path.name)
            for node in tree.body:
                if isinstance(node, ast.Assign):
                    self.assertIsNotNone(ast.literal_eval(node.value))


class SyntaxTest(unittest.TestCase):
    def test_kinds_of_nodes(self):
        for path, node in nodes(ast.AST):
            self.assertIsInstance(node, STATEMENTS + EXPRESSIONS + PARTS, path.name)
            self.assertNotIsInstance(node, (ast.Div, ast.MatMult), path.name)
            if isinstance(node, ast.Constant):
                self.assertIsInstance(node.value, (int, str, type(None)), path.name)
            if isinstance(node, ast.Assign):
                self.assertEqual(len(node.targets), 1)
                self.assertNotIsInstance(node.targets[0], (ast.Tuple, ast.List))
            if isinstance(node, (ast.For, ast.While)):
                self.assertEqual(node.orelse, [])
            if isinstance(node, ast.ListComp):
                self.assertEqual(len(node.generators), 1)
                self.assertLessEqual(len(node.generators[0].ifs), 1)

    def test_nothing_stands_by_itself_but_calls_and_the_first_words(self):
        for path, tree in trees():
            for node in ast.walk(tree):
                if isinstance(node, ast.Expr) and node is not tree.body[0]:
                    self.assertIsInstance(node.value, ast.Call, (path.name, node.lineno))

    def test_plain_parameters(self):
        for path, node in nodes(ast.FunctionDef):
            self.assertEqual(node.decorator_list, [])
            self.assertIsNone(node.returns)
            self.assertIsNone(node.args.vararg)
            self.assertIsNone(node.args.kwarg)
            self.assertEqual(node.args.kwonlyargs + node.args.posonlyargs, [])

    def test_is_stands_beside_none_true_false(self):
        for path, node in nodes(ast.Compare):
            for operator, right in zip(node.ops, node.comparators):
                if isinstance(operator, (ast.Is, ast.IsNot)):
                    self.assertIn(ast.unparse(right), ("None", "True", "False"))

    def test_walked_on_the_spot(self):
        for path, tree in trees():
            spots = []
            for node in ast.walk(tree):
                if isinstance(node, (ast.For, ast.comprehension)):
                    spots.append(node.iter)
                if isinstance(node, ast.Call) and isinstance(node.func, ast.Name) and node.func.id in WALKERS:
                    spots.extend(node.args)
            for node in ast.walk(tree):
                if isinstance(node, ast.Call) and isinstance(node.func, ast.Name) and node.func.id in WALKED:
                    self.assertIn(node, spots, (path.name, node.lineno))


class NameTest(unittest.TestCase):
    def test_plain_names(self):
        for path, node in nodes((ast.Name, ast.arg, ast.Attribute, ast.FunctionDef, ast.ClassDef)):
            name = {ast.Name: "id", ast.arg: "arg", ast.Attribute: "attr"}.get(type(node), "name")
            name = getattr(node, name)
            if name not in METHODS_WITH_UNDERSCORES:
                self.assertRegex(name, r"^[A-Za-z][A-Za-z0-9_]*$", path.name)
            self.assertNotIn(name, UNUSED_NAMES, path.name)

    def test_pythons_own_names(self):
        for path, node in nodes((ast.Name, ast.arg)):
            name = node.id if isinstance(node, ast.Name) else node.arg
            if name in dir(builtins):
                self.assertIn(name, OWN_NAMES, path.name)
                self.assertIsInstance(node, ast.Name)
                self.assertIsInstance(node.ctx, ast.Load, (path.name, node.lineno))

    def test_methods_that_are_called(self):
        for path, node in nodes(ast.Call):
            if isinstance(node.func, ast.Attribute):
                self.assertIn(node.func.attr, OWN_METHODS | own_methods(), (path.name, node.lineno))

    def test_methods_and_values_of_objects(self):
        self.assertEqual(own_methods() & own_values(), set())
        self.assertEqual((own_values() & TAKEN) - VALUES_ALLOWED, set())
        self.assertEqual((own_methods() & TAKEN) - OWN_METHODS - METHODS_WITH_UNDERSCORES - {"add", "discard"}, set())

    def test_no_local_is_called_like_a_class_or_an_import(self):
        for path, tree in trees():
            taken = {node.name for node in tree.body if isinstance(node, ast.ClassDef)}
            taken |= {name.name for node in tree.body if isinstance(node, ast.ImportFrom) for name in node.names}
            for node in ast.walk(tree):
                if isinstance(node, ast.arg):
                    self.assertNotIn(node.arg, taken, path.name)
                if isinstance(node, ast.Name) and isinstance(node.ctx, ast.Store):
                    self.assertNotIn(node.id, taken, path.name)


if __name__ == "__main__":
    unittest.main()

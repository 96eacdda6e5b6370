"""The package keeps to the part of Python that it is written in: what of LANGUAGE.md can be seen from the source."""

import ast
import builtins
import pathlib
import re
import unittest

PACKAGE = pathlib.Path(__file__).resolve().parent.parent / "seekmarks"
FILES = sorted(PACKAGE.glob("*.py"))
STATEMENTS = (
    ast.Assign, ast.AugAssign, ast.If, ast.While, ast.For, ast.Return, ast.Break, ast.Continue, ast.Pass, ast.Raise, ast.Try, ast.Expr,
    ast.FunctionDef, ast.ClassDef, ast.ImportFrom)
FORBIDDEN = (
    ast.Set, ast.SetComp, ast.DictComp, ast.GeneratorExp, ast.NamedExpr, ast.Starred, ast.Div, ast.Await, ast.Yield, ast.YieldFrom)
OWN_NAMES = set("""len range enumerate zip min max sum abs sorted reversed int str bool list tuple dict set frozenset isinstance ord repr any
all divmod Exception ValueError TypeError KeyError IndexError LookupError ZeroDivisionError ArithmeticError OverflowError RuntimeError
NotImplementedError AttributeError StopIteration""".split())
METHODS = set("""append clear copy count endswith extend find get index insert isalnum isalpha isdigit islower isspace isupper items join keys
ljust lower lstrip partition pop remove replace reverse rfind rjust rpartition rsplit rstrip setdefault split splitlines startswith strip
update upper values zfill bit_length""".split())
NEVER = set("register mro elements open input version_info with_traceback add_note format format_map".split())
WORDS = set("""type typing typing_extensions enum Enum IntEnum StrEnum Flag IntFlag Generic Protocol ABC ABCMeta namedtuple NamedTuple
TypedDict TYPE_CHECKING abstractmethod""".split())
WALKED = ("zip", "enumerate", "reversed", "range")
WALKERS = ("list", "tuple", "dict", "sorted", "sum", "any", "all", "enumerate", "zip", "min", "max")


def trees():
    return [(path, ast.parse(path.read_text())) for path in FILES]


def nodes(kind):
    return [(path, node) for path, tree in trees() for node in ast.walk(tree) if isinstance(node, kind)]


def named(node):
    return node.func.id if isinstance(node, ast.Call) and isinstance(node.func, ast.Name) else None


def plain(node):
    """Whether it is a value that a file's top may have (L3)."""
    if isinstance(node, (ast.Tuple, ast.List)):
        return all(plain(part) for part in node.elts)
    if isinstance(node, ast.UnaryOp):
        return isinstance(node.op, ast.USub) and isinstance(node.operand, ast.Constant)
    return isinstance(node, ast.Constant) and isinstance(node.value, (int, str, type(None)))


class SourceTest(unittest.TestCase):
    def test_files(self):
        self.assertTrue((PACKAGE / "__init__.py").is_file())
        for path in PACKAGE.iterdir():
            if path.name != "__pycache__":
                self.assertRegex(path.name, r"^[a-z0-9_]+\.py$")
                self.assertFalse(hasattr(builtins, path.stem) and not path.stem.startswith("__"), path)

    def test_sizes_and_signs(self):
        for path in FILES:
            text = path.read_text()
            lines = text.splitlines()
            self.assertLessEqual(len(lines), 400, path)
            self.assertTrue(all(len(line) <= 120 for line in lines), path)
            self.assertTrue(all(sign == "\n" or " " <= sign <= "~" for sign in text), path)
            self.assertFalse(WORDS & set(re.findall(r"\w+", text)), path)
            self.assertIsNone(re.search("dataclass|overload|contextmanager", text), path)
        for path, node in nodes(ast.FunctionDef):
            self.assertLessEqual(node.end_lineno - node.lineno + 1, 40, (path, node.name))

    def test_statements(self):
        for path, node in nodes(ast.stmt):
            self.assertIsInstance(node, STATEMENTS, (path, node.lineno))
        for path, node in nodes(FORBIDDEN):
            self.fail((path, node))
        for path, node in nodes((ast.For, ast.While)):
            self.assertEqual(node.orelse, [], (path, node.lineno))
        for path, node in nodes(ast.Try):
            self.assertEqual(node.finalbody, [], (path, node.lineno))
        for path, node in nodes(ast.Assign):
            self.assertEqual(len(node.targets), 1, (path, node.lineno))
        for path, node in nodes(ast.ListComp):
            self.assertEqual(len(node.generators), 1, (path, node.lineno))
            self.assertLessEqual(len(node.generators[0].ifs), 1, (path, node.lineno))
        for path, node in nodes(ast.Expr):
            self.assertIsInstance(node.value, (ast.Call, ast.Constant), (path, node.lineno))

    def test_values(self):
        for path, node in nodes(ast.Constant):
            self.assertIsInstance(node.value, (int, str, type(None)), (path, node.lineno))
            if isinstance(node.value, str):
                self.assertNotIn("%", node.value, (path, node.lineno))
        for path, node in nodes(ast.Compare):
            for operator, right in zip(node.ops, node.comparators):
                if isinstance(operator, (ast.Is, ast.IsNot)):
                    self.assertIsInstance(right, ast.Constant, (path, node.lineno))
        for path, node in nodes(ast.BinOp):
            if isinstance(node.op, ast.Pow):
                self.assertIsInstance(node.right, ast.Constant, (path, node.lineno))

    def test_tops(self):
        for path, tree in trees():
            bound = []
            for node in tree.body:
                if isinstance(node, ast.Assign):
                    self.assertTrue(plain(node.value), (path, node.lineno))
                    bound.append(node.targets[0].id)
                elif isinstance(node, (ast.FunctionDef, ast.ClassDef)):
                    bound.append(node.name)
                elif isinstance(node, ast.ImportFrom):
                    bound += [name.name for name in node.names]
                else:
                    self.assertTrue(isinstance(node.value, ast.Constant), (path, node.lineno))
            self.assertEqual(len(bound), len(set(bound)), path)

    def test_imports(self):
        defined = {}
        drawn = {}
        for path, tree in trees():
            names = [node.name for node in tree.body if isinstance(node, (ast.FunctionDef, ast.ClassDef))]
            names += [node.targets[0].id for node in tree.body if isinstance(node, ast.Assign)]
            defined["seekmarks." + path.stem] = names
        for path, tree in trees():
            inside = [node for node in ast.walk(tree) if isinstance(node, ast.ImportFrom)]
            self.assertEqual(inside, [node for node in tree.body if isinstance(node, ast.ImportFrom)], path)
            drawn["seekmarks." + path.stem] = [node.module for node in inside]
            for node in inside:
                self.assertEqual(node.level, 0)
                for name in node.names:
                    self.assertIn(name.name, defined[node.module], path)
                    self.assertIsNone(name.asname)
                    used = [each for each in ast.walk(tree) if isinstance(each, ast.Name) and each.id == name.name]
                    self.assertTrue(used, (path, name.name))
        while drawn:
            free = [name for name, others in drawn.items() if not any(other in drawn for other in others)]
            self.assertTrue(free, "files draw from one another")
            drawn = {name: others for name, others in drawn.items() if name not in free}

    def test_functions_and_classes(self):
        for path, node in nodes(ast.FunctionDef):
            given = node.args
            self.assertFalse(given.vararg or given.kwarg or given.kwonlyargs or given.posonlyargs or node.decorator_list, (path, node.name))
            self.assertIsNone(node.returns)
        methods, values = set(), set()
        for path, node in nodes(ast.ClassDef):
            self.assertLessEqual(len(node.bases), 1)
            self.assertFalse(node.decorator_list or node.keywords)
            for part in node.body:
                self.assertTrue(isinstance(part, ast.FunctionDef) or isinstance(part.value, ast.Constant), (path, node.name))
            methods |= {part.name for part in node.body if isinstance(part, ast.FunctionDef)}
        for path, node in nodes(ast.Attribute):
            if isinstance(node.ctx, ast.Store):
                values.add(node.attr)
        self.assertEqual(methods & values, set())
        taken = {name for kind in (str, int, list, dict, set, bytes, tuple) for name in dir(kind)}
        self.assertEqual((methods | values) & (taken - {"__init__"}), set())

    def test_names(self):
        for path, tree in trees():
            tops = [node.name for node in tree.body if isinstance(node, (ast.FunctionDef, ast.ClassDef))]
            imports = [name.name for node in tree.body if isinstance(node, ast.ImportFrom) for name in node.names]
            classes = [node.name for node in tree.body if isinstance(node, ast.ClassDef)]
            local = [node.arg for node in ast.walk(tree) if isinstance(node, ast.arg)]
            local += [node.id for node in ast.walk(tree) if isinstance(node, ast.Name) and isinstance(node.ctx, ast.Store)]
            for name in tops + local:
                self.assertRegex(name, "^[A-Za-z][A-Za-z0-9_]*$", path)
                self.assertFalse(hasattr(builtins, name), (path, name))
                self.assertNotIn(name, NEVER, path)
            self.assertEqual(set(local) & set(imports + classes), set(), path)
            for node in ast.walk(tree):
                if isinstance(node, ast.Name) and hasattr(builtins, node.id):
                    self.assertIn(node.id, OWN_NAMES, (path, node.lineno))

    def test_calls(self):
        own = {node.name for path, node in nodes(ast.FunctionDef)}
        for path, node in nodes(ast.Call):
            if isinstance(node.func, ast.Attribute):
                self.assertIn(node.func.attr, METHODS | own, (path, node.lineno))
            allowed = {"sorted": ("key", "reverse"), "min": ("key", "default"), "max": ("key", "default")}.get(named(node), ())
            self.assertTrue(all(word.arg in allowed for word in node.keywords), (path, node.lineno))
            if named(node) == "set":
                self.fail((path, node.lineno))
        for path, node in nodes(ast.Attribute):
            self.assertNotIn(node.attr, NEVER, (path, node.lineno))

    def test_walks(self):
        for path, tree in trees():
            walked = [node.iter for node in ast.walk(tree) if isinstance(node, (ast.For, ast.comprehension))]
            walked += [node.args[0] for node in ast.walk(tree) if named(node) in WALKERS and node.args]
            for node in ast.walk(tree):
                if named(node) in WALKED:
                    self.assertIn(node, walked, (path, node.lineno))

    def test_raises(self):
        for path, node in nodes(ast.Raise):
            self.assertIsInstance(node.exc, ast.Call, (path, node.lineno))
        for path, node in nodes(ast.ExceptHandler):
            self.assertIsInstance(node.type, ast.Name, (path, node.lineno))
            self.assertFalse(hasattr(builtins, node.type.id), (path, node.lineno))


if __name__ == "__main__":
    unittest.main()

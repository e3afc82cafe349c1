"""The package keeps to the part of Python that it is written in, as far as a test can see it."""

import ast
import builtins
import pathlib
import re
import unittest

PACKAGE = pathlib.Path(__file__).resolve().parent.parent / "stillwon"
FILES = sorted(path for path in PACKAGE.rglob("*") if "__pycache__" not in path.parts)

BUILTINS = (
    "len range enumerate zip min max sum abs sorted reversed int str bool list tuple dict set frozenset isinstance "
    "ord repr any all divmod Exception ValueError TypeError KeyError IndexError LookupError ZeroDivisionError "
    "ArithmeticError OverflowError RuntimeError NotImplementedError AttributeError StopIteration"
).split()
METHODS = (
    "append clear copy count endswith extend find get index insert isalnum isalpha isdigit islower isspace isupper "
    "items join keys ljust lower lstrip partition pop remove replace reverse rfind rjust rpartition rsplit rstrip "
    "setdefault split splitlines startswith strip update upper values zfill bit_length"
).split()
WORDS = (
    "type typing typing_extensions enum Enum IntEnum StrEnum Flag IntFlag Generic Protocol ABC ABCMeta namedtuple "
    "NamedTuple TypedDict TYPE_CHECKING abstractmethod"
).split()
UNUSED = (
    "register mro elements open input version_info with_traceback add_note attrgetter breakpoint builtins compile "
    "copyright credits delattr dir eval exec exit gc getattr globals hasattr help id importlib license locals "
    "methodcaller os quit setattr super type vars sys chr print format format_map"
).split()
LATE = ("zip", "enumerate", "reversed", "range")
BANNED = (
    ast.With, ast.AsyncWith, ast.Match, ast.Delete, ast.Global, ast.Nonlocal, ast.Assert, ast.Yield, ast.YieldFrom,
    ast.AsyncFunctionDef, ast.AsyncFor, ast.Await, ast.SetComp, ast.DictComp, ast.GeneratorExp, ast.NamedExpr,
    ast.Starred, ast.Div, ast.MatMult, ast.AnnAssign, ast.Import, ast.Set,
)


def trees():
    return [(path.name, ast.parse(path.read_text())) for path in FILES]


def nodes(kind):
    return [(name, node) for name, tree in trees() for node in ast.walk(tree) if isinstance(node, kind)]


class Files(unittest.TestCase):
    def test_files(self):
        names = [path.name for path in FILES]
        self.assertIn("__init__.py", names)
        for path in FILES:
            self.assertTrue(path.is_file(), path)
            self.assertRegex(path.name, r"^(__init__|[a-z][a-z0-9_]*)\.py$")
            self.assertTrue(path.stem == "__init__" or not hasattr(builtins, path.stem), path)
            self.assertNotRegex(path.stem, r"^(test.*|site|conftest|sitecustomize|usercustomize)$")

    def test_signs_and_sizes(self):
        for path in FILES:
            rows = path.read_text().split("\n")
            self.assertLessEqual(len(rows), 400, path)
            for row in rows:
                self.assertRegex(row, r"^[ -~]{0,120}$", path)

    def test_words_that_stand_nowhere(self):
        for path in FILES:
            text = path.read_text()
            for word in WORDS:
                self.assertIsNone(re.search(rf"\b{word}\b", text), (path, word))
            for word in ("dataclass", "overload", "contextmanager"):
                self.assertNotIn(word, text)

    def test_functions_are_short(self):
        for name, node in nodes(ast.FunctionDef):
            self.assertLessEqual(node.end_lineno - node.lineno + 1, 40, (name, node.name))


class Statements(unittest.TestCase):
    def test_banned(self):
        for name, node in nodes(BANNED):
            self.fail(f"{name}: {ast.dump(node)[:80]}")

    def test_top(self):
        for name, tree in trees():
            self.assertIsNotNone(ast.get_docstring(tree), name)
            bound = []
            for node in tree.body[1:]:
                self.assertIsInstance(node, (ast.ImportFrom, ast.FunctionDef, ast.ClassDef, ast.Assign), name)
                bound += [alias.name for alias in node.names] if isinstance(node, ast.ImportFrom) else []
                bound += [node.name] if isinstance(node, (ast.FunctionDef, ast.ClassDef)) else []
                bound += [node.targets[0].id] if isinstance(node, ast.Assign) else []
                if isinstance(node, ast.Assign):
                    ast.literal_eval(node.value)
            self.assertEqual(len(bound), len(set(bound)), name)

    def test_imports(self):
        defined = {}
        drawn = {}
        for name, tree in trees():
            tops = [node for node in tree.body if isinstance(node, (ast.FunctionDef, ast.ClassDef))]
            given = [node.targets[0].id for node in tree.body if isinstance(node, ast.Assign)]
            defined[name[:-3]] = [node.name for node in tops] + given
            drawn[name[:-3]] = [node for node in ast.walk(tree) if isinstance(node, ast.ImportFrom)]
        for name, rows in drawn.items():
            for node in rows:
                self.assertEqual(node.level, 0)
                self.assertTrue(node.module.startswith("stillwon."), (name, node.module))
                for alias in node.names:
                    self.assertIn(alias.name, defined[node.module.partition(".")[2]])
                    self.assertIsNone(alias.asname)
        self.assert_no_rounds({name: [node.module.partition(".")[2] for node in rows] for name, rows in drawn.items()})

    def assert_no_rounds(self, drawn):
        left = dict(drawn)
        while left:
            free = [name for name in left if not any(other in left for other in left[name])]
            self.assertTrue(free, left)
            left = {name: left[name] for name in left if name not in free}

    def test_assignments_have_one_target(self):
        for name, node in nodes(ast.Assign):
            self.assertEqual(len(node.targets), 1, name)
            self.assertNotIsInstance(node.targets[0], (ast.Tuple, ast.List), name)

    def test_loops_and_tries(self):
        for name, node in nodes((ast.For, ast.While)):
            self.assertEqual(node.orelse, [], name)
        for name, node in nodes(ast.Try):
            self.assertEqual(node.finalbody, [], name)
            for handler in node.handlers:
                self.assertNotIn(handler.type.id, ("Exception", "TypeError"))

    def test_functions(self):
        for name, node in nodes((ast.FunctionDef, ast.Lambda)):
            plain = node.args
            self.assertFalse(plain.vararg or plain.kwarg or plain.kwonlyargs or plain.posonlyargs, name)
            self.assertTrue(all(arg.annotation is None for arg in plain.args), name)
        for name, node in nodes(ast.FunctionDef):
            self.assertEqual(node.decorator_list, [], name)
            self.assertIsNone(node.returns, name)

    def test_classes(self):
        for name, node in nodes(ast.ClassDef):
            self.assertLessEqual(len(node.bases), 1, name)
            self.assertEqual(node.decorator_list + node.keywords, [], name)
            self.assertIsNotNone(ast.get_docstring(node), name)
            self.assertTrue(all(isinstance(part, ast.FunctionDef) for part in node.body[1:]), name)


class Expressions(unittest.TestCase):
    def test_values(self):
        for name, node in nodes(ast.Constant):
            self.assertIn(type(node.value), (int, str, bool, type(None)), name)
            if isinstance(node.value, str):
                self.assertNotIn("%", node.value, name)

    def test_comprehensions(self):
        for name, node in nodes(ast.ListComp):
            self.assertEqual(len(node.generators), 1, name)
            self.assertLessEqual(len(node.generators[0].ifs), 1, name)

    def test_is_stands_beside_none_alone(self):
        for name, node in nodes(ast.Compare):
            for sign, other in zip(node.ops, node.comparators):
                if isinstance(sign, (ast.Is, ast.IsNot)):
                    self.assertIsInstance(other, ast.Constant, name)

    def test_no_power_of_a_name(self):
        self.assertEqual(nodes(ast.Pow), [])

    def test_names(self):
        for name, node in nodes(ast.Name):
            self.assertNotIn(node.id, UNUSED, name)
            self.assertRegex(node.id, r"^[A-Za-z][A-Za-z0-9_]*$", name)
            if hasattr(builtins, node.id):
                self.assertIn(node.id, BUILTINS, name)
                self.assertIsInstance(node.ctx, ast.Load, (name, node.id))
        for name, node in nodes(ast.arg):
            self.assertFalse(hasattr(builtins, node.arg), (name, node.arg))

    def test_locals_are_called_like_nothing_of_the_top(self):
        for name, tree in trees():
            tops = [node.name for node in tree.body if isinstance(node, (ast.ClassDef, ast.FunctionDef))]
            drawn = [a.name for node in tree.body if isinstance(node, ast.ImportFrom) for a in node.names]
            for function in [node for node in ast.walk(tree) if isinstance(node, ast.FunctionDef)]:
                stored = [n.id for n in ast.walk(function) if isinstance(n, ast.Name) and isinstance(n.ctx, ast.Store)]
                for local in stored + [arg.arg for arg in function.args.args]:
                    self.assertNotIn(local, tops + drawn, (name, function.name))

    def test_methods(self):
        classes = [node for name, node in nodes(ast.ClassDef)]
        own = [part.name for node in classes for part in node.body if isinstance(part, ast.FunctionDef)]
        for name, node in nodes(ast.Call):
            if isinstance(node.func, ast.Attribute):
                self.assertIn(node.func.attr, METHODS + own, name)
            self.assertEqual(node.keywords, [], name)

    def test_no_name_is_a_method_and_a_value(self):
        classes = [node for name, node in nodes(ast.ClassDef)]
        own = [part.name for node in classes for part in node.body if isinstance(part, ast.FunctionDef)]
        stored = [node.attr for name, node in nodes(ast.Attribute) if isinstance(node.ctx, ast.Store)]
        self.assertEqual(set(own) & set(stored), set())
        taken = [name for kind in (str, int, list, dict, set, bytes) for name in vars(kind)]
        self.assertEqual((set(own) | set(stored)) & set(taken), {"__init__"})

    def test_what_is_walked_at_once_is_not_kept(self):
        for name, node in nodes((ast.Assign, ast.Return)):
            call = node.value
            if isinstance(call, ast.Call):
                called = call.func.id if isinstance(call.func, ast.Name) else call.func.attr
                self.assertNotIn(called, LATE + ("set", "items", "keys", "values"), name)

"""The package's files keep to the part of Python that the project has chosen: what of it a reading can see."""

import ast
import builtins
import pathlib
import re
import unittest

PACKAGE = pathlib.Path(__file__).resolve().parent.parent / "sureline"
FILES = sorted(PACKAGE.rglob("*.py"))

NODES = (
    ast.Module, ast.ImportFrom, ast.alias, ast.FunctionDef, ast.ClassDef, ast.arguments, ast.arg, ast.Return,
    ast.Assign, ast.AugAssign, ast.For, ast.While, ast.If, ast.Raise, ast.Try, ast.ExceptHandler, ast.Expr,
    ast.Pass, ast.Break, ast.Continue, ast.BoolOp, ast.And, ast.Or, ast.BinOp, ast.UnaryOp, ast.Not, ast.USub,
    ast.Lambda, ast.IfExp, ast.Dict, ast.ListComp, ast.comprehension, ast.Compare, ast.Call, ast.keyword,
    ast.Constant, ast.Attribute, ast.Subscript, ast.Name, ast.List, ast.Tuple, ast.Slice, ast.Load, ast.Store,
    ast.Add, ast.Sub, ast.Mult, ast.FloorDiv, ast.Mod, ast.BitAnd, ast.BitOr, ast.BitXor, ast.LShift, ast.RShift,
    ast.Eq, ast.NotEq, ast.Lt, ast.LtE, ast.Gt, ast.GtE, ast.Is, ast.IsNot, ast.In, ast.NotIn)

BUILT_IN = set("""len range enumerate zip min max sum abs sorted reversed int str bool list tuple dict isinstance
    any all divmod repr ValueError KeyError ZeroDivisionError StopIteration Exception""".split())

METHODS = set("""append clear copy count endswith extend find get index insert isalnum isalpha isdigit islower
    isspace isupper items join keys ljust lower lstrip partition pop remove replace reverse rfind rjust rpartition
    rsplit rstrip setdefault split splitlines startswith strip update upper values zfill bit_length""".split())

WORDS = """type typing typing_extensions enum Enum IntEnum StrEnum Flag IntFlag Generic Protocol ABC ABCMeta
    namedtuple NamedTuple TypedDict TYPE_CHECKING abstractmethod""".split()

NAMES = set("""register mro elements open input version_info with_traceback add_note attrgetter breakpoint builtins
    compile copyright credits delattr dir eval exec exit gc getattr globals hasattr help id importlib license locals
    methodcaller os quit setattr super type vars sys""".split())

INTERFACE = {"answers": "ends", "times": "codes", "parity": "codes", "mend": "codes", "sum_of": "codes",
             "wire": "codes", "open_of": "codes"}


def trees():
    return [(path, ast.parse(path.read_text(encoding="utf-8"))) for path in FILES]


def bound_names(tree):
    for node in ast.walk(tree):
        if isinstance(node, (ast.FunctionDef, ast.ClassDef)):
            yield node.name
        elif isinstance(node, ast.arg):
            yield node.arg
        elif isinstance(node, ast.Name) and isinstance(node.ctx, ast.Store):
            yield node.id
        elif isinstance(node, ast.alias):
            yield node.asname or node.name


class Files(unittest.TestCase):
    def test_files_and_signs(self):
        self.assertTrue((PACKAGE / "__init__.py").is_file())
        for path in PACKAGE.rglob("*"):
            if "__pycache__" not in path.parts:
                self.assertRegex(path.name, r"^[a-z0-9_]+\.py$")
        for path in FILES:
            text = path.read_bytes()
            self.assertTrue(all(sign == 10 or 32 <= sign <= 126 for sign in text), path)
            lines = text.decode().split("\n")
            self.assertLess(len(lines), 400, path)
            self.assertLessEqual(max(map(len, lines)), 120, path)

    def test_words(self):
        for path in FILES:
            text = path.read_text()
            for word in WORDS:
                self.assertIsNone(re.search(r"\b%s\b" % word, text), (path, word))
            for word in ("dataclass", "overload", "contextmanager"):
                self.assertNotIn(word, text, path)

    def test_nodes(self):
        for path, tree in trees():
            for node in ast.walk(tree):
                self.assertIsInstance(node, NODES, (path, getattr(node, "lineno", 0)))
                if isinstance(node, ast.Constant):
                    self.assertIn(type(node.value), (int, str, bool, type(None)), (path, node.lineno))
                if isinstance(node, ast.Assign):
                    self.assertEqual(len(node.targets), 1)
                    self.assertNotIsInstance(node.targets[0], (ast.Tuple, ast.List), (path, node.lineno))
                if isinstance(node, (ast.For, ast.While)):
                    self.assertEqual(node.orelse, [], (path, node.lineno))
                if isinstance(node, ast.Expr):
                    self.assertIsInstance(node.value, (ast.Call, ast.Constant), (path, node.lineno))
                if isinstance(node, ast.ListComp):
                    self.assertEqual(len(node.generators), 1)
                    self.assertLessEqual(len(node.generators[0].ifs), 1)

    def test_the_top_of_a_file(self):
        for path, tree in trees():
            self.assertTrue(ast.get_docstring(tree), path)
            names = []
            for node in tree.body[1:]:
                self.assertIsInstance(node, (ast.ImportFrom, ast.FunctionDef, ast.ClassDef, ast.Assign), path)
                if isinstance(node, ast.Assign):
                    self.assertIsInstance(node.value, ast.Constant, (path, node.lineno))
                    names.append(node.targets[0].id)
                elif isinstance(node, ast.ImportFrom):
                    self.assertEqual(node.module.split(".")[0], "sureline")
                    self.assertEqual(node.level, 0)
                    names += [name.asname or name.name for name in node.names]
                else:
                    names.append(node.name)
            self.assertEqual(len(names), len(set(names)), path)

    def test_functions_and_classes(self):
        for path, tree in trees():
            for node in ast.walk(tree):
                if isinstance(node, ast.FunctionDef):
                    self.assertLessEqual(node.end_lineno - node.lineno + 1, 40, (path, node.name))
                    args = node.args
                    self.assertFalse(args.vararg or args.kwarg or args.kwonlyargs or args.posonlyargs, node.name)
                    self.assertEqual(node.decorator_list, [])
                if isinstance(node, ast.ClassDef):
                    self.assertTrue(all(isinstance(part, ast.FunctionDef) for part in node.body), node.name)
                    self.assertEqual(node.decorator_list, [])
                    methods = [part.name for part in node.body]
                    self.assertEqual(len(methods), len(set(methods)))

    def test_names(self):
        python_own = set(dir(builtins))
        for path, tree in trees():
            for name in bound_names(tree):
                if name != "__init__":
                    self.assertRegex(name, r"^[A-Za-z][A-Za-z0-9_]*$", path)
                    self.assertNotIn(name, python_own, path)
                self.assertNotIn(name, NAMES, path)
            for node in ast.walk(tree):
                if isinstance(node, ast.Attribute):
                    self.assertFalse(node.attr.startswith("_"), (path, node.lineno))
                    self.assertNotIn(node.attr, NAMES, (path, node.lineno))
                if isinstance(node, ast.Name) and node.id in python_own:
                    self.assertIn(node.id, BUILT_IN, (path, node.lineno))

    def test_no_local_is_called_like_a_class_or_an_import(self):
        for path, tree in trees():
            taken = {node.name for node in tree.body if isinstance(node, ast.ClassDef)}
            taken |= {name.name for node in tree.body if isinstance(node, ast.ImportFrom) for name in node.names}
            for function in ast.walk(tree):
                if isinstance(function, ast.FunctionDef):
                    inner = [n for part in function.body + [function.args] for n in bound_names(part)]
                    self.assertEqual(taken & set(inner), set(), (path, function.name))

    def test_methods_and_values_are_apart(self):
        methods = set()
        values = set()
        called = set()
        for path, tree in trees():
            for node in ast.walk(tree):
                if isinstance(node, ast.ClassDef):
                    methods |= {part.name for part in node.body}
                if isinstance(node, ast.Attribute) and isinstance(node.ctx, ast.Store):
                    values.add(node.attr)
                if isinstance(node, ast.Call) and isinstance(node.func, ast.Attribute):
                    called.add(node.func.attr)
        self.assertEqual(methods & values, set())
        self.assertEqual(called - methods - METHODS, set())
        own = {name for kind in (str, int, list, dict, set, bytes) for name in dir(kind)} - {"__init__"}
        self.assertEqual((values | methods) & own, set())

    def test_no_two_files_draw_from_one_another(self):
        drawn = {}
        for path, tree in trees():
            drawn[path.stem] = {node.module.split(".")[-1] for node in tree.body if isinstance(node, ast.ImportFrom)}
        done = set()
        while len(done) < len(drawn):
            free = {name for name in drawn if name not in done and drawn[name] <= done}
            self.assertTrue(free, "files draw from one another in a ring")
            done |= free

    def test_the_interface_stands_in_its_files_alone(self):
        for path, tree in trees():
            for node in tree.body:
                if isinstance(node, (ast.FunctionDef, ast.ClassDef)) and node.name in INTERFACE:
                    self.assertEqual(path.stem, INTERFACE[node.name])
                    self.assertEqual(node.args.defaults, [])
                if isinstance(node, ast.ImportFrom):
                    self.assertEqual([n.name for n in node.names if n.name in INTERFACE], [])

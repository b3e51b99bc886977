"""The package's files keep to the small part of the language that they are written in."""

import ast
import builtins
import pathlib
import re
import unittest

PACKAGE = pathlib.Path(__file__).resolve().parent.parent / "heappieces"

BUILTINS = """len range enumerate zip min max sum abs sorted reversed int str bool list tuple dict set frozenset
isinstance ord repr any all divmod Exception ValueError TypeError KeyError IndexError LookupError ZeroDivisionError
ArithmeticError OverflowError RuntimeError NotImplementedError AttributeError StopIteration""".split()

METHODS = """append clear copy count endswith extend find get index insert isalnum isalpha isdigit islower isspace
isupper items join keys ljust lower lstrip partition pop remove replace reverse rfind rjust rpartition rsplit rstrip
setdefault split splitlines startswith strip update upper values zfill bit_length""".split()

NODES = """Module Expr Constant ImportFrom alias FunctionDef arguments arg ClassDef Assign AugAssign If While For Return
Break Continue Pass Raise Try ExceptHandler Call Attribute Subscript Slice Name Load Store List Tuple Dict BinOp UnaryOp
BoolOp Compare IfExp ListComp comprehension Lambda And Or Not USub Add Sub Mult FloorDiv Mod Eq NotEq Lt LtE Gt GtE
Is IsNot In NotIn""".split()

WORDS_NOWHERE = """type typing typing_extensions enum Enum IntEnum StrEnum Flag IntFlag Generic Protocol ABC ABCMeta
namedtuple NamedTuple TypedDict TYPE_CHECKING abstractmethod""".split()

NAMES_NOWHERE = """register mro elements open input version_info with_traceback add_note attrgetter breakpoint builtins
compile copyright credits delattr dir eval exec exit gc getattr globals hasattr help id importlib license locals
methodcaller os quit setattr super vars sys format format_map chr print""".split()


def files():
    return sorted(PACKAGE.rglob("*.py"))


def trees():
    return [(path.name, ast.parse(path.read_text())) for path in files()]


def nodes(*kinds):
    return [(name, node) for name, tree in trees() for node in ast.walk(tree) if isinstance(node, kinds)]


class Files(unittest.TestCase):

    def test_only_plain_files_lie_there(self):
        found = [path for path in PACKAGE.rglob("*") if "__pycache__" not in path.parts]
        for path in found:
            self.assertRegex(path.name, r"\A[a-z_0-9]+\.py\Z")
            self.assertFalse(path.stem.startswith("test") or path.stem in dir(builtins))
        self.assertIn(PACKAGE / "__init__.py", found)

    def test_size_and_signs(self):
        for path in files():
            lines = path.read_text(encoding="ascii").split("\n")
            self.assertLessEqual(len(lines), 400)
            for line in lines:
                self.assertLessEqual(len(line), 120)
                self.assertRegex(line, r"\A[ -~]*\Z")

    def test_words_that_stand_nowhere(self):
        for path in files():
            text = path.read_text()
            self.assertEqual(set(re.findall(r"\w+", text)) & set(WORDS_NOWHERE), set(), path.name)
            self.assertIsNone(re.search("dataclass|overload|contextmanager", text))

    def test_functions_are_short_and_plain(self):
        for name, node in nodes(ast.FunctionDef):
            self.assertLessEqual(node.end_lineno - node.lineno + 1, 40, node.name)
            self.assertEqual(node.decorator_list, [])
            self.assertIsNone(node.args.vararg or node.args.kwarg)
            self.assertEqual(node.args.kwonlyargs + node.args.posonlyargs, [])


class Forms(unittest.TestCase):

    def test_kinds_of_nodes(self):
        for name, tree in trees():
            found = {node.__class__.__name__ for node in ast.walk(tree)}
            self.assertEqual(found - set(NODES), set(), name)

    def test_module_tops(self):
        for name, tree in trees():
            self.assertIsNotNone(ast.get_docstring(tree), name)
            bound = []
            for node in tree.body[1:]:
                self.assertIsInstance(node, (ast.ImportFrom, ast.Assign, ast.FunctionDef, ast.ClassDef), name)
                if isinstance(node, ast.Assign):
                    ast.literal_eval(node.value)
                    self.assertNotIsInstance(node.value, (ast.List, ast.Dict))
                    bound.append(node.targets[0].id)
                elif not isinstance(node, ast.ImportFrom):
                    bound.append(node.name)
            self.assertEqual(len(bound), len(set(bound)), name)

    def test_statements_by_themselves_are_calls(self):
        for name, tree in trees():
            for node in ast.walk(tree):
                if isinstance(node, ast.Expr) and node is not tree.body[0]:
                    self.assertIsInstance(node.value, ast.Call, (name, node.lineno))

    def test_one_plain_target(self):
        for name, node in nodes(ast.Assign):
            self.assertEqual(len(node.targets), 1)
            self.assertIsInstance(node.targets[0], (ast.Name, ast.Attribute, ast.Subscript), (name, node.lineno))

    def test_no_else_behind_a_loop(self):
        for name, node in nodes(ast.For, ast.While):
            self.assertEqual(node.orelse, [], name)

    def test_constants(self):
        for name, node in nodes(ast.Constant):
            self.assertIn(node.value.__class__, (int, str, bool, None.__class__), name)
            if isinstance(node.value, str):
                self.assertNotIn("%", node.value)

    def test_is_stands_beside_none_true_false(self):
        for name, node in nodes(ast.Compare):
            if any(isinstance(sign, (ast.Is, ast.IsNot)) for sign in node.ops):
                self.assertIsInstance(node.comparators[0], ast.Constant, (name, node.lineno))

    def test_comprehensions(self):
        for name, node in nodes(ast.ListComp):
            self.assertEqual(len(node.generators), 1, name)
            self.assertLessEqual(len(node.generators[0].ifs), 1, name)


class Names(unittest.TestCase):

    def test_imports_are_of_the_package_and_without_rings(self):
        drawn = {}
        for path in files():
            tree = ast.parse(path.read_text())
            drawn[path.stem] = []
            for node in ast.walk(tree):
                if isinstance(node, ast.ImportFrom):
                    self.assertIn(node, tree.body)
                    self.assertRegex(node.module, r"\Aheappieces\.[a-z]+\Z")
                    source = node.module.split(".")[1]
                    drawn[path.stem].append(source)
                    top = ast.parse((PACKAGE / (source + ".py")).read_text()).body
                    defined = {n.targets[0].id if isinstance(n, ast.Assign) else getattr(n, "name", "") for n in top}
                    for name in node.names:
                        self.assertIn(name.name, defined)
                        self.assertIsNone(name.asname)
        while drawn:
            free = [name for name in drawn if not set(drawn[name]) & set(drawn)]
            self.assertNotEqual(free, [], drawn)
            for name in free:
                del drawn[name]

    def test_names_are_plain(self):
        for name, node in nodes(ast.Name, ast.arg, ast.FunctionDef, ast.ClassDef, ast.Attribute):
            called = [getattr(node, part) for part in ("id", "arg", "name", "attr") if hasattr(node, part)][0]
            if called != "__init__":
                self.assertRegex(called, r"\A[A-Za-z][A-Za-z0-9_]*\Z", name)
            self.assertNotIn(called, NAMES_NOWHERE, (name, node.lineno))

    def test_built_in_names(self):
        for name, node in nodes(ast.Name):
            if node.id in dir(builtins):
                self.assertIn(node.id, BUILTINS, (name, node.lineno))
                self.assertIsInstance(node.ctx, ast.Load, (name, node.lineno))
        for name, node in nodes(ast.arg):
            self.assertNotIn(node.arg, dir(builtins), (name, node.lineno))

    def test_locals_are_not_called_like_classes_or_imports(self):
        for name, tree in trees():
            taken = {node.name for node in tree.body if isinstance(node, ast.ClassDef)}
            for node in tree.body:
                if isinstance(node, ast.ImportFrom):
                    taken |= {part.name for part in node.names}
            for node in ast.walk(tree):
                if isinstance(node, ast.arg):
                    self.assertNotIn(node.arg, taken, name)
                if isinstance(node, ast.Name) and isinstance(node.ctx, ast.Store):
                    self.assertNotIn(node.id, taken, name)

    def test_methods_and_values(self):
        methods = {}
        values = set()
        for name, node in nodes(ast.ClassDef):
            own = [part.name for part in node.body if isinstance(part, ast.FunctionDef)]
            self.assertEqual(len(own), len(set(own)), node.name)
            for part in node.body:
                self.assertIsInstance(part, (ast.FunctionDef, ast.Pass))
            methods.update(dict.fromkeys(own, node.name))
        for name, node in nodes(ast.Attribute):
            if isinstance(node.ctx, ast.Store):
                values.add(node.attr)
        of_python = {part for kind in (str, int, list, dict, set, bytes, tuple) for part in dir(kind)}
        self.assertEqual(values & set(methods), set())
        self.assertEqual((values | set(methods)) & of_python - {"__init__"}, set())
        for name, node in nodes(ast.Attribute):
            self.assertIn(node.attr, values | set(methods) | set(METHODS), (name, node.lineno))


if __name__ == "__main__":
    unittest.main()

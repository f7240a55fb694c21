"""The package's files keep to the part of Python that the project allows, as far as a walk can see it."""

import ast
import builtins
import pathlib
import re
import unittest

PACKAGE = pathlib.Path(__file__).resolve().parent.parent / "shoppages"
FILES = sorted(PACKAGE.rglob("*"))

NODES = (
    "Module FunctionDef ClassDef arguments arg Return Assign AugAssign For While If Raise Try ExceptHandler Expr "
    "Pass Break Continue Import ImportFrom alias BoolOp And Or BinOp Add Sub Mult FloorDiv Mod Pow LShift RShift "
    "BitOr BitXor BitAnd UnaryOp Invert Not UAdd USub Lambda IfExp Dict ListComp comprehension Compare Eq NotEq Lt "
    "LtE Gt GtE Is IsNot In NotIn Call keyword JoinedStr FormattedValue Constant Attribute Subscript Slice Name "
    "List Tuple Load Store").split()
OWN_NAMES = (
    "len range enumerate zip min max sum abs sorted reversed int str bool list tuple dict set frozenset isinstance "
    "ord repr any all divmod Exception ValueError TypeError KeyError IndexError LookupError ZeroDivisionError "
    "ArithmeticError OverflowError RuntimeError NotImplementedError AttributeError StopIteration").split()
VALUE_METHODS = (
    "append clear copy count endswith extend find get index insert isalnum isalpha isdigit islower isspace isupper "
    "items join keys ljust lower lstrip partition pop remove replace reverse rfind rjust rpartition rsplit rstrip "
    "setdefault split splitlines startswith strip update upper values zfill bit_length").split()
WORDS = (
    "type typing typing_extensions enum Enum IntEnum StrEnum Flag IntFlag Generic Protocol ABC ABCMeta namedtuple "
    "NamedTuple TypedDict TYPE_CHECKING abstractmethod").split()
UNUSED = "register mro elements open input version_info with_traceback add_note format format_map".split()
VALUES = (str, int, list, dict, set, bytes)
WALKED = "zip enumerate reversed range items keys values".split()
WALKERS = "list tuple dict sorted sum any all enumerate zip".split()
CHANGES = "append clear extend insert pop remove reverse setdefault update".split()
KEYWORDS = {
    "sorted": {"key", "reverse"}, "min": {"key", "default"}, "max": {"key", "default"}, "sum": {"start"},
    "enumerate": {"start"}, "zip": {"strict"}}


def trees():
    for file in FILES:
        if file.suffix == ".py":
            text = file.read_text(encoding="utf-8")
            yield file, text, ast.parse(text)


def nodes(kinds):
    for file, text, tree in trees():
        for node in ast.walk(tree):
            if isinstance(node, kinds):
                yield file.name, node


class Language(unittest.TestCase):
    def test_files(self):
        files = [file for file in FILES if "__pycache__" not in file.parts]
        self.assertIn(PACKAGE / "__init__.py", files)
        for file in files:
            self.assertRegex(file.name, r"^[a-z0-9_]+\.py$")

    def test_signs_words_and_sizes(self):
        for file, text, tree in trees():
            self.assertRegex(text, r"\A[ -~\n]*\Z", file)
            self.assertLessEqual(text.count("\n"), 400, file)
            self.assertLessEqual(max(map(len, text.split("\n"))), 120, file)
            self.assertFalse(set(re.findall(r"\w+", text)) & set(WORDS), file)
            self.assertNotRegex(text, "dataclass|overload|contextmanager")

    def test_nodes(self):
        for file, node in nodes(ast.AST):
            self.assertIn(type(node).__name__, NODES, (file, getattr(node, "lineno", 0)))

    def test_functions(self):
        for file, node in nodes(ast.FunctionDef):
            where = (file, node.name)
            self.assertLessEqual(node.end_lineno - node.lineno + 1, 40, where)
            self.assertFalse(node.decorator_list or node.returns, where)
            asks = node.args
            self.assertFalse(asks.vararg or asks.kwarg or asks.kwonlyargs or asks.posonlyargs, where)

    def test_names(self):
        own = set(dir(builtins))
        for file, node in nodes((ast.Name, ast.arg, ast.FunctionDef, ast.ClassDef, ast.Attribute)):
            name = getattr(node, "id", None) or getattr(node, "arg", None) or getattr(node, "attr", None) or node.name
            where = (file, node.lineno, name)
            self.assertNotIn(name, UNUSED, where)
            if name != "__init__":
                self.assertRegex(name, "^[A-Za-z][A-Za-z0-9_]*$", where)
            if isinstance(node, ast.Name) and isinstance(node.ctx, ast.Load):
                self.assertTrue(name not in own or name in OWN_NAMES, where)
            elif not isinstance(node, ast.Attribute):
                self.assertNotIn(name, own, where)

    def test_imports(self):
        order = {}
        for file, text, tree in trees():
            order[file.stem] = []
            for node in tree.body:
                self.assertNotIsInstance(node, ast.Import)
                if isinstance(node, ast.ImportFrom):
                    self.assertRegex(node.module, r"^shoppages\.\w+$")
                    source = ast.parse((PACKAGE / (node.module.split(".")[1] + ".py")).read_text())
                    self.assertLessEqual({one.name for one in node.names}, top_names(source))
                    order[file.stem].append(node.module.split(".")[1])
        while order:
            free = [name for name in order if not set(order[name]) & set(order)]
            self.assertTrue(free, "files that draw from one another")
            order = {name: order[name] for name in order if name not in free}
        for file, node in nodes(ast.ImportFrom):
            self.assertEqual(node.col_offset, 0)

    def test_the_top_of_a_file(self):
        for file, text, tree in trees():
            bound = []
            for k, node in enumerate(tree.body):
                if isinstance(node, ast.Assign):
                    ast.literal_eval(node.value)
                    bound += [target.id for target in node.targets]
                elif isinstance(node, (ast.FunctionDef, ast.ClassDef)):
                    bound.append(node.name)
                elif isinstance(node, ast.ImportFrom):
                    bound += [one.name for one in node.names]
                else:
                    self.assertTrue(k == 0 and isinstance(node.value.value, str), file)
            self.assertEqual(len(bound), len(set(bound)), file)

    def test_assignments(self):
        for file, node in nodes(ast.Assign):
            self.assertEqual(len(node.targets), 1)
            self.assertNotIsInstance(node.targets[0], (ast.Tuple, ast.List, ast.Starred), (file, node.lineno))

    def test_loops_and_comprehensions(self):
        for file, node in nodes((ast.For, ast.While)):
            self.assertFalse(node.orelse, (file, node.lineno))
        for file, node in nodes(ast.ListComp):
            self.assertEqual(len(node.generators), 1, (file, node.lineno))
            self.assertLessEqual(len(node.generators[0].ifs), 1, (file, node.lineno))
        for file, node in nodes(ast.Try):
            self.assertFalse(node.finalbody, (file, node.lineno))
            for handler in node.handlers:
                self.assertIsInstance(handler.type, ast.Name, (file, node.lineno))
                self.assertNotIn(handler.type.id, dir(builtins), (file, node.lineno))

    def test_plain_values(self):
        for file, node in nodes(ast.Constant):
            self.assertIn(type(node.value), (int, str, bool, type(None)), (file, node.lineno))
        for file, node in nodes(ast.Compare):
            for sign, value in zip(node.ops, node.comparators):
                if isinstance(sign, (ast.Is, ast.IsNot)):
                    self.assertIn(getattr(value, "value", 0), (None, True, False), (file, node.lineno))

    def test_walked_at_once(self):
        for file, text, tree in trees():
            walked = []
            for node in ast.walk(tree):
                if isinstance(node, (ast.For, ast.comprehension)):
                    walked.append(node.iter)
                elif isinstance(node, ast.Call) and node.args:
                    name = called(node)
                    if name in WALKERS or (name in ("min", "max") and len(node.args) == 1) or name == "join":
                        walked.append(node.args[0])
            for node in ast.walk(tree):
                if isinstance(node, ast.Call) and called(node) in WALKED:
                    self.assertTrue(any(node is one for one in walked), (file, node.lineno))

    def test_what_a_loop_walks_is_not_changed(self):
        for file, node in nodes(ast.For):
            walked = {one.id for one in ast.walk(node.iter) if isinstance(one, ast.Name)}
            for one in [part for row in node.body for part in ast.walk(row)]:
                if isinstance(one, (ast.Subscript, ast.Name)) and isinstance(one.ctx, ast.Store):
                    target = one.value if isinstance(one, ast.Subscript) else one
                    self.assertNotIn(getattr(target, "id", None), walked, (file, one.lineno))
                if isinstance(one, ast.Call) and isinstance(one.func, ast.Attribute) and one.func.attr in CHANGES:
                    self.assertNotIn(getattr(one.func.value, "id", None), walked, (file, one.lineno))

    def test_keywords(self):
        for file, node in nodes(ast.Call):
            if called(node) in OWN_NAMES or called(node) in VALUE_METHODS:
                known = KEYWORDS.get(called(node), set())
                self.assertLessEqual({one.arg for one in node.keywords}, known, (file, node.lineno))

    def test_no_set_is_kept(self):
        for file, node in nodes(ast.Call):
            self.assertNotIn(called(node), ("set", "frozenset"), (file, node.lineno))

    def test_methods_and_values(self):
        methods, values, classes = set(), set(), []
        for file, node in nodes(ast.ClassDef):
            classes.append(node.name)
            own = [one.name for one in node.body if isinstance(one, ast.FunctionDef)]
            self.assertEqual(len(own), len(set(own)), node.name)
            self.assertLessEqual(len(node.bases), 1)
            methods |= set(own) - {"__init__"}
        for file, node in nodes(ast.Attribute):
            if isinstance(node.ctx, ast.Store):
                values.add(node.attr)
        self.assertEqual(len(classes), len(set(classes)))
        self.assertFalse(methods & values)
        for name in methods | values:
            self.assertFalse(any(hasattr(value, name) for value in VALUES), name)
        for file, node in nodes(ast.Attribute):
            known = node.attr in methods | values | set(VALUE_METHODS) | {"__init__"}
            self.assertTrue(known, (file, node.lineno, node.attr))


def called(node):
    """The name that's called, of a function or a method."""
    return getattr(node.func, "id", None) or getattr(node.func, "attr", None)


def top_names(tree):
    names = set()
    for node in tree.body:
        if isinstance(node, ast.Assign):
            names |= {target.id for target in node.targets}
        elif isinstance(node, (ast.FunctionDef, ast.ClassDef)):
            names.add(node.name)
    return names


if __name__ == "__main__":
    unittest.main()

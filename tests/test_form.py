"""The form of the package's files: those of its rules that a look at the text can judge."""

import ast
import builtins
import pathlib
import re
import unittest

PACKAGE = pathlib.Path(__file__).resolve().parent.parent / "selfprint"
FILES = {path.stem: path for path in sorted(PACKAGE.glob("*.py"))}
TREES = {name: ast.parse(path.read_text(encoding="utf-8")) for name, path in FILES.items()}

ALLOWED_BUILTINS = set("""
    len range enumerate zip min max sum abs sorted reversed int str bool list tuple dict set isinstance ord repr
    any all divmod iter next map property classmethod Exception ValueError TypeError KeyError IndexError LookupError ZeroDivisionError
    ArithmeticError RuntimeError NotImplementedError NotImplemented StopIteration""".split())
ALLOWED_METHODS = set("""
    append clear copy count endswith extend find get index insert isalnum isalpha isdigit islower isspace isupper
    items join keys ljust lower lstrip partition pop remove replace reverse rfind rjust rpartition rsplit rstrip
    setdefault split splitlines startswith strip update upper values zfill bit_length removeprefix removesuffix
    rindex isascii add discard sort""".split())
ALLOWED_DUNDERS = set("""
    __init__ __eq__ __repr__ __str__ __len__ __enter__ __exit__ __call__ __iter__ __getitem__ __contains__""".split())
ALLOWED_STATEMENTS = (
    ast.Assign, ast.AugAssign, ast.AnnAssign, ast.If, ast.While, ast.For, ast.Return, ast.Break, ast.Continue, ast.Pass,
    ast.Raise, ast.Assert, ast.Delete, ast.Nonlocal, ast.Match, ast.With, ast.Try, ast.Expr, ast.FunctionDef,
    ast.ClassDef, ast.ImportFrom)
BARRED_NAMES = set("""
    register mro elements open input law version_info with_traceback add_note attrgetter breakpoint builtins compile
    copyright credits delattr dir eval exec exit gc globals help id importlib license locals methodcaller os quit
    setattr super type vars sys format print""".split())
BARRED_WORDS = re.compile(
    r"\b(type|typing|typing_extensions|enum|Enum|IntEnum|StrEnum|Flag|IntFlag|Generic|Protocol|ABC|ABCMeta|namedtuple|"
    r"NamedTuple|TypedDict|TYPE_CHECKING|abstractmethod|_wall|_WallAttr)\b|dataclass|overload|contextmanager|Meta")
BUILTIN_NAMES = set(dir(builtins))


def functions(tree):
    return [node for node in ast.walk(tree) if isinstance(node, ast.FunctionDef)]


def parameters(function):
    told = function.args
    found = told.posonlyargs + told.args + told.kwonlyargs
    return [one.arg for one in found + [one for one in (told.vararg, told.kwarg) if one]]


def bound_at_top(tree):
    found = []
    for node in tree.body:
        if isinstance(node, (ast.FunctionDef, ast.ClassDef)):
            found.append(node.name)
        if isinstance(node, ast.Assign):
            found.extend(target.id for target in node.targets)
        if isinstance(node, ast.ImportFrom):
            found.extend(name.asname or name.name for name in node.names)
    return found


def bound_within(function):
    found = parameters(function)
    for node in ast.walk(function):
        if isinstance(node, ast.Name) and isinstance(node.ctx, ast.Store):
            found.append(node.id)
        if isinstance(node, ast.ExceptHandler) and node.name:
            found.append(node.name)
        if isinstance(node, ast.FunctionDef) and node is not function:
            found.append(node.name)
    return found


def literals(node):
    """Whether a value at module level is made of literals and names of functions alone."""
    if isinstance(node, ast.UnaryOp):
        return isinstance(node.op, ast.USub) and literals(node.operand)
    if isinstance(node, ast.Dict):
        return all(literals(one) for one in node.keys + node.values)
    if isinstance(node, (ast.List, ast.Tuple)):
        return all(literals(one) for one in node.elts)
    return isinstance(node, (ast.Constant, ast.Name))


class Form(unittest.TestCase):
    def each(self, kind):
        for name, tree in TREES.items():
            for node in ast.walk(tree):
                if isinstance(node, kind):
                    yield f"{name}.py:{getattr(node, 'lineno', '?')}", node

    def test_the_folder_holds_its_own_files_alone(self):
        found = [path.name for path in PACKAGE.iterdir() if path.name != "__pycache__"]
        self.assertIn("__init__.py", found)
        for name in found:
            self.assertRegex(name, r"^([a-z][a-z0-9_]*|__init__)\.py$")

    def test_lines_and_characters(self):
        for name, path in FILES.items():
            text = path.read_text(encoding="utf-8")
            self.assertLessEqual(len(text.splitlines()), 399, name)
            self.assertTrue(all(sign == "\n" or " " <= sign <= "~" for sign in text), name)
            for number, line in enumerate(text.splitlines(), 1):
                self.assertLessEqual(len(line), 120, f"{name}:{number}")
                self.assertEqual(line, line.rstrip(), f"{name}:{number}")

    def test_size_of_functions(self):
        for where, node in self.each(ast.FunctionDef):
            self.assertLessEqual(node.end_lineno - node.lineno + 1, 40, where)
            self.assertEqual([one for one in node.decorator_list if not isinstance(one, (ast.Name, ast.Attribute))], [])

    def test_statements(self):
        for where, node in self.each(ast.stmt):
            self.assertIsInstance(node, ALLOWED_STATEMENTS, where)
            if isinstance(node, ast.Expr):
                self.assertTrue(isinstance(node.value, ast.Call) or isinstance(node.value.value, str), where)

    def test_module_level(self):
        for name, tree in TREES.items():
            for node in tree.body:
                where = f"{name}.py:{node.lineno}"
                self.assertIsInstance(node, (ast.Expr, ast.ImportFrom, ast.FunctionDef, ast.ClassDef, ast.Assign), where)
                if isinstance(node, ast.Assign):
                    self.assertEqual(len(node.targets), 1, where)
                    self.assertIsInstance(node.targets[0], ast.Name, where)
                    self.assertTrue(literals(node.value), where)
            names = bound_at_top(tree)
            self.assertEqual(len(names), len(set(names)), name)

    def test_imports(self):
        for where, node in self.each(ast.ImportFrom):
            self.assertEqual(node.level, 0, where)
            self.assertRegex(node.module, r"^selfprint\.[a-z_]+$", where)
            target = TREES[node.module.split(".")[1]]
            own = [one for one in bound_at_top(target) if one not in imported(target)]
            for name in node.names:
                self.assertIsNone(name.asname, where)
                self.assertIn(name.name, own, where)

    def test_imports_are_used(self):
        for name, tree in TREES.items():
            used = {node.id for node in ast.walk(tree) if isinstance(node, ast.Name)}
            self.assertEqual([one for one in imported(tree) if one not in used], [], name)

    def test_no_imports_in_a_circle(self):
        reached = {name: set() for name in TREES}
        for name, tree in TREES.items():
            reached[name] = {node.module.split(".")[1] for node in tree.body if isinstance(node, ast.ImportFrom)}
        for _ in TREES:
            reached = {name: far.union(*[reached[one] for one in far]) for name, far in reached.items()}
        self.assertEqual([name for name, far in reached.items() if name in far], [])

    def test_names(self):
        for name, tree in TREES.items():
            taken = imported(tree) + [node.name for node in tree.body if isinstance(node, ast.ClassDef)]
            for one in bound_at_top(tree):
                self.assert_plain(one, name)
            for function in functions(tree):
                for one in bound_within(function):
                    self.assert_plain(one, f"{name}.{function.name}")
                    self.assertNotIn(one, taken, f"{name}.{function.name}")

    def assert_plain(self, name, where):
        self.assertRegex(name, r"^(_?[A-Za-z][A-Za-z0-9_]*|_)$", where)
        self.assertNotIn(name, BUILTIN_NAMES, where)
        self.assertNotIn(name, BARRED_NAMES, where)

    def test_builtins_and_methods(self):
        own = {node.name for tree in TREES.values() for node in ast.walk(tree) if isinstance(node, ast.FunctionDef)}
        for where, node in self.each(ast.Name):
            if isinstance(node.ctx, ast.Load) and node.id in BUILTIN_NAMES:
                self.assertIn(node.id, ALLOWED_BUILTINS, where)
        for where, node in self.each(ast.Call):
            if isinstance(node.func, ast.Attribute):
                self.assertIn(node.func.attr, ALLOWED_METHODS | own, where)
        for where, node in self.each(ast.Attribute):
            self.assertNotIn(node.attr, BARRED_NAMES, where)
            self.assertTrue(not node.attr.startswith("__") or node.attr in ALLOWED_DUNDERS, where)
        for name in own:
            self.assertTrue(not name.startswith("__") or name in ALLOWED_DUNDERS, name)

    def test_no_words_that_are_barred(self):
        for name, path in FILES.items():
            self.assertIsNone(BARRED_WORDS.search(path.read_text(encoding="utf-8")), name)

    def test_values(self):
        for where, node in self.each(ast.Constant):
            self.assertNotIsInstance(node.value, (float, complex), where)
            if isinstance(node.value, str):
                self.assertNotIn("%", node.value, where)
                self.assertFalse(node.value.endswith(("._", ".__")), where)
        for where, node in self.each(ast.BinOp):
            self.assertNotIsInstance(node.op, (ast.Div, ast.MatMult), where)
        for kinds in (ast.Global, ast.Await, ast.AsyncFunctionDef):
            self.assertEqual([where for where, _ in self.each(kinds)], [])

    def test_tables_are_flat(self):
        for name, tree in TREES.items():
            for node in tree.body:
                if isinstance(node, ast.Assign):
                    inner = [one for one in ast.walk(node.value) if isinstance(one, (ast.List, ast.Dict))]
                    self.assertEqual([one for one in inner if one is not node.value], [], name)

    def test_tables_name_what_is_defined_above(self):
        for name, tree in TREES.items():
            above = []
            for node in tree.body:
                if isinstance(node, ast.FunctionDef):
                    above.append(node.name)
                if isinstance(node, ast.Assign):
                    named = [one.id for one in ast.walk(node.value) if isinstance(one, ast.Name)]
                    self.assertEqual([one for one in named if one not in above], [], name)
                    above.append(node.targets[0].id)

    def test_comparisons_with_is(self):
        for where, node in self.each(ast.Compare):
            if any(isinstance(one, (ast.Is, ast.IsNot)) for one in node.ops):
                self.assertIn(getattr(node.comparators[0], "value", "other"), (None, True, False), where)

    def test_caught_errors(self):
        own = {node.name for node in TREES["errors"].body if isinstance(node, ast.ClassDef)}
        for where, node in self.each(ast.ExceptHandler):
            for one in node.type.elts if isinstance(node.type, ast.Tuple) else [node.type]:
                self.assertIsInstance(one, ast.Name, where)
                self.assertIn(one.id, own | {"KeyError", "ZeroDivisionError"}, where)

    def test_desks_and_trials(self):
        of_desk = {node.name: node for node in functions(TREES["desk"])}
        self.assertEqual(ast.unparse(of_desk["__iter__"].body[0]), "raise TypeError('a desk is not iterated over')")
        self.assertEqual([ast.unparse(row) for row in of_desk["__exit__"].body],
                         ["desk = self._desk", "desk._kept = self._before", "return False"])
        # What an operator or a property runs changes nothing.
        for name in ("__len__", "__contains__", "__getitem__", "names", "labels"):
            self.assertEqual([one for one in ast.walk(of_desk[name]) if isinstance(one, (ast.Assign, ast.AugAssign))], [])

    def test_each_part_tells_what_it_is(self):
        for name, tree in TREES.items():
            self.assertIsNotNone(ast.get_docstring(tree), name)
            for node in ast.walk(tree):
                bare = ("__init__", "__iter__", "__exit__")
                if isinstance(node, (ast.FunctionDef, ast.ClassDef)) and node.name not in bare:
                    self.assertIsNotNone(ast.get_docstring(node), f"{name}.{node.name}")


def imported(tree):
    return [one.name for node in tree.body if isinstance(node, ast.ImportFrom) for one in node.names]


if __name__ == "__main__":
    unittest.main()

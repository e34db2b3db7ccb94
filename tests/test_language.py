"""Whether the package's files keep to the rules of the language that a look at their form can tell."""

import ast
import builtins
import pathlib
import re
import unittest

import onevalues

PACKAGE = pathlib.Path(onevalues.__file__).parent
STATEMENTS = (ast.Assign, ast.AugAssign, ast.If, ast.While, ast.For, ast.Return, ast.Break, ast.Continue, ast.Pass,
              ast.Raise, ast.Try, ast.FunctionDef)
EXPRESSIONS = (ast.Constant, ast.List, ast.Tuple, ast.Dict, ast.Set, ast.BinOp, ast.UnaryOp, ast.Compare, ast.BoolOp,
               ast.IfExp, ast.Call, ast.Attribute, ast.Subscript, ast.Slice, ast.Name, ast.ListComp, ast.Lambda,
               ast.JoinedStr, ast.FormattedValue)
BUILT_IN = set("""len range enumerate zip min max sum abs sorted reversed int str bool list tuple dict set frozenset
    isinstance ord repr any all divmod Exception ValueError TypeError KeyError IndexError LookupError
    ZeroDivisionError ArithmeticError OverflowError RuntimeError NotImplementedError AttributeError
    StopIteration""".split())
METHODS = set("""append clear copy count endswith extend find get index insert isalnum isalpha isdigit islower isspace
    isupper items join keys ljust lower lstrip partition pop remove replace reverse rfind rjust rpartition rsplit
    rstrip setdefault split splitlines startswith strip update upper values zfill bit_length""".split())
OWN_OBJECTS = (str, int, list, dict, set, bytes)
NEVER = re.compile(r"\b(type|typing|typing_extensions|enum|Enum|IntEnum|StrEnum|Flag|IntFlag|Generic|Protocol|ABC|ABCMeta"
                   r"|namedtuple|NamedTuple|TypedDict|TYPE_CHECKING|abstractmethod)\b|dataclass|overload|contextmanager")
NEVER_NAMES = set("""register mro elements open input version_info with_traceback add_note attrgetter breakpoint
    builtins compile copyright credits delattr dir eval exec exit gc getattr globals hasattr help id importlib license
    locals methodcaller os quit setattr super type vars sys format format_map chr print""".split())
WALKED = ("zip", "enumerate", "reversed", "range", "items", "keys", "values")
WALKERS = ("list", "tuple", "dict", "sorted", "sum", "any", "all", "enumerate", "zip")
TWO_UNDERSCORES = ("__init__", "__eq__", "__repr__", "__str__", "__len__", "__all__", "__version__")


def bound_names(tree):
    """Each name that is given a meaning, with its row."""
    for node in ast.walk(tree):
        if isinstance(node, (ast.FunctionDef, ast.ClassDef)):
            yield node.name, node.lineno
        elif isinstance(node, ast.arg):
            yield node.arg, node.lineno
        elif isinstance(node, ast.Name) and isinstance(node.ctx, ast.Store):
            yield node.id, node.lineno
        elif isinstance(node, ast.Attribute) and isinstance(node.ctx, ast.Store):
            yield node.attr, node.lineno
        elif isinstance(node, ast.ExceptHandler) and node.name:
            yield node.name, node.lineno


def called_name(node):
    """The name by which something is called, of a method the method's."""
    return getattr(node.func, "id", getattr(node.func, "attr", None))


class Language(unittest.TestCase):
    def setUp(self):
        self.files = sorted(PACKAGE.glob("*.py"))
        self.texts = {file: file.read_text(encoding="utf-8") for file in self.files}
        self.trees = {file: ast.parse(text) for file, text in self.texts.items()}
        self.own_methods = {node.name for tree in self.trees.values() for outer in ast.walk(tree)
                            if isinstance(outer, ast.ClassDef) for node in outer.body
                            if isinstance(node, ast.FunctionDef)}

    def each(self, *kinds):
        for file, tree in self.trees.items():
            for node in ast.walk(tree):
                if isinstance(node, kinds):
                    yield f"{file.name}:{node.lineno}", node

    def test_only_plain_files_lie_in_the_package(self):
        for path in PACKAGE.rglob("*"):
            if "__pycache__" not in path.parts:
                self.assertRegex(path.name, r"^(__init__|__main__|[a-z][a-z0-9_]*)\.py$")
        self.assertIn(PACKAGE / "__init__.py", self.files)

    def test_signs_and_sizes(self):
        for file, text in self.texts.items():
            self.assertRegex(text, r"\A[ -~\n]*\Z", file.name)
            self.assertIsNone(NEVER.search(text), file.name)
            self.assertLessEqual(len(text.splitlines()), 400, file.name)
            self.assertLessEqual(max(len(line) for line in text.splitlines()), 120, file.name)
        for place, node in self.each(ast.FunctionDef):
            self.assertLessEqual(node.end_lineno - node.lineno + 1, 40, place)

    def test_the_top_of_a_file(self):
        for file, tree in self.trees.items():
            for node in tree.body[1:]:
                self.assertIsInstance(node, (ast.ImportFrom, ast.FunctionDef, ast.ClassDef, ast.Assign), file.name)
                if isinstance(node, ast.Assign):
                    ast.literal_eval(node.value)
            self.assertIsNotNone(ast.get_docstring(tree), file.name)
            names = [name for node in tree.body for name, row in bound_names(ast.Module([node], []))
                     if isinstance(node, ast.Assign)]
            names += [node.name for node in tree.body if isinstance(node, (ast.FunctionDef, ast.ClassDef))]
            self.assertEqual(len(names), len(set(names)), file.name)

    def test_imports(self):
        drawn = {}
        for file, tree in self.trees.items():
            drawn[file.stem] = []
            for node in ast.walk(tree):
                self.assertNotIsInstance(node, ast.Import, file.name)
                if isinstance(node, ast.ImportFrom):
                    self.assertIn(node, tree.body)
                    self.assertEqual((node.level, node.module.split(".")[0]), (0, "onevalues"), file.name)
                    source = node.module.split(".")[1]
                    defined = {name for name, row in bound_names(self.trees[PACKAGE / f"{source}.py"])}
                    self.assertLessEqual({alias.name for alias in node.names}, defined, file.name)
                    used = {inner.id for inner in ast.walk(tree) if isinstance(inner, ast.Name)}
                    self.assertLessEqual({alias.name for alias in node.names}, used, file.name)
                    drawn[file.stem].append(source)
        while drawn:
            free = [name for name in drawn if not set(drawn[name]) & set(drawn)]
            self.assertTrue(free, f"files draw from one another: {drawn}")
            drawn = {name: drawn[name] for name in drawn if name not in free}

    def test_statements(self):
        for file, tree in self.trees.items():
            for outer in ast.walk(tree):
                if isinstance(outer, ast.ClassDef):
                    self.assertLessEqual(len(outer.bases), 1)
                    for node in outer.body:
                        self.assertIsInstance(node, ast.FunctionDef, file.name)
                if isinstance(outer, ast.FunctionDef):
                    for node in ast.walk(outer):
                        if isinstance(node, ast.stmt) and node is not outer:
                            self.statement(f"{file.name}:{node.lineno}", node)

    def statement(self, place, node):
        if isinstance(node, ast.Expr):
            self.assertIsInstance(node.value, ast.Call, place)
        else:
            self.assertIsInstance(node, STATEMENTS, place)
        if isinstance(node, (ast.While, ast.For)):
            self.assertEqual(node.orelse, [], place)
        if isinstance(node, ast.Try):
            self.assertEqual(node.finalbody, [], place)
            self.assertTrue(all(handler.type for handler in node.handlers), place)
        if isinstance(node, ast.Assign):
            self.assertEqual(len(node.targets), 1, place)
            target = node.targets[0]
            if isinstance(target, ast.Attribute):
                self.assertIsInstance(target.value, ast.Name, place)

    def test_functions_are_plain(self):
        for place, node in self.each(ast.FunctionDef, ast.ClassDef):
            self.assertEqual(node.decorator_list, [], place)
        for place, node in self.each(ast.FunctionDef):
            given = node.args
            self.assertFalse(given.vararg or given.kwarg or given.kwonlyargs or given.posonlyargs, place)

    def test_expressions(self):
        for place, node in self.each(ast.expr):
            self.assertIsInstance(node, EXPRESSIONS, place)
            if isinstance(node, ast.Constant):
                self.assertIsInstance(node.value, (int, str, type(None)), place)
            if isinstance(node, ast.BinOp):
                self.assertNotIsInstance(node.op, (ast.Div, ast.MatMult), place)
            if isinstance(node, ast.ListComp):
                self.assertEqual(len(node.generators), 1, place)
            if isinstance(node, ast.Compare) and any(isinstance(op, (ast.Is, ast.IsNot)) for op in node.ops):
                self.assertIn(ast.unparse(node.comparators[0]), ("None", "True", "False"), place)

    def test_what_is_walked_is_walked_at_once(self):
        for file, tree in self.trees.items():
            walked = []
            for node in ast.walk(tree):
                if isinstance(node, (ast.For, ast.comprehension)):
                    walked.append(node.iter)
                elif isinstance(node, ast.Call) and isinstance(node.func, ast.Name) and node.args:
                    if node.func.id in WALKERS or (node.func.id in ("min", "max") and len(node.args) == 1):
                        walked.append(node.args[0])
                elif isinstance(node, ast.Call) and called_name(node) == "join":
                    if isinstance(node.func.value, ast.Constant):
                        walked.append(node.args[0])
            for node in ast.walk(tree):
                if isinstance(node, ast.Call) and called_name(node) in WALKED:
                    self.assertIn(node, walked, f"{file.name}:{node.lineno}")

    def test_powers_are_written(self):
        for place, node in self.each(ast.BinOp):
            if isinstance(node.op, ast.Pow):
                self.assertIsInstance(node.right, ast.Constant, place)
                self.assertTrue(0 <= node.right.value <= 64, place)

    def test_sets_are_not_kept(self):
        for file, tree in self.trees.items():
            inner = [arg for node in ast.walk(tree) if isinstance(node, ast.Call) and called_name(node) in ("sorted", "len")
                     for arg in ast.walk(node.args[0])]
            for node in ast.walk(tree):
                if isinstance(node, ast.Call) and called_name(node) in ("set", "frozenset"):
                    self.assertIn(node, inner, f"{file.name}:{node.lineno}")

    def test_locals_are_not_called_like_imports_or_classes(self):
        for file, tree in self.trees.items():
            taken = {alias.asname or alias.name for node in tree.body if isinstance(node, ast.ImportFrom)
                     for alias in node.names}
            taken |= {node.name for node in tree.body if isinstance(node, ast.ClassDef)}
            for outer in ast.walk(tree):
                if isinstance(outer, ast.FunctionDef):
                    for node in ast.walk(outer):
                        name = node.arg if isinstance(node, ast.arg) else getattr(node, "id", None)
                        if isinstance(node, ast.arg) or (isinstance(node, ast.Name) and isinstance(node.ctx, ast.Store)):
                            self.assertNotIn(name, taken, f"{file.name}:{node.lineno}")

    def test_names(self):
        for file, tree in self.trees.items():
            for name, row in bound_names(tree):
                place = f"{file.name}:{row} {name}"
                if name not in TWO_UNDERSCORES:
                    self.assertRegex(name, r"^[A-Za-z][A-Za-z0-9_]*$", place)
                    self.assertFalse(hasattr(builtins, name), place)
                self.assertNotIn(name, NEVER_NAMES, place)
        for place, node in self.each(ast.Name):
            self.assertNotIn(node.id, NEVER_NAMES, place)
            if hasattr(builtins, node.id):
                self.assertIn(node.id, BUILT_IN, place)

    def test_methods_and_values_of_objects(self):
        stored = {node.attr for place, node in self.each(ast.Attribute) if isinstance(node.ctx, ast.Store)}
        self.assertEqual(stored & self.own_methods, set())
        for name in stored | (self.own_methods - set(TWO_UNDERSCORES)):
            self.assertFalse(any(hasattr(kind, name) for kind in OWN_OBJECTS), name)
        for place, node in self.each(ast.Attribute):
            self.assertNotIn(node.attr, NEVER_NAMES, place)
            self.assertIn(node.attr, stored | self.own_methods | METHODS, place)


if __name__ == "__main__":
    unittest.main()

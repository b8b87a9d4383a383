"""The package's files keep to LANGUAGE.md, as far as a walk over their text and syntax can see.

With it goes what point 1 says of the files: no clock, chance or files are used, as nothing
but the package itself is imported, and nothing is kept at a file's top.
"""

import ast
import builtins
import pathlib
import re
import unittest

PACKAGE = pathlib.Path(__file__).resolve().parent.parent / "stairgauge"

OWN_NAMES = set(
    "len range enumerate zip min max sum abs sorted reversed int str bool list tuple dict set frozenset isinstance"
    " ord repr any all divmod Exception ValueError TypeError KeyError IndexError LookupError ZeroDivisionError"
    " ArithmeticError OverflowError RuntimeError NotImplementedError AttributeError StopIteration".split()
)
OWN_METHODS = set(
    "append clear copy count endswith extend find get index insert isalnum isalpha isdigit islower isspace isupper"
    " items join keys ljust lower lstrip partition pop remove replace reverse rfind rjust rpartition rsplit rstrip"
    " setdefault split splitlines startswith strip update upper values zfill bit_length add discard title".split()
)
BANNED_WORDS = (
    "type typing typing_extensions enum Enum IntEnum StrEnum Flag IntFlag Generic Protocol ABC ABCMeta namedtuple"
    " NamedTuple TypedDict TYPE_CHECKING abstractmethod"
).split()
BANNED_NAMES = set(
    "register mro elements open input version_info with_traceback add_note attrgetter breakpoint builtins compile"
    " copyright credits delattr dir eval exec exit gc getattr globals hasattr help id importlib license locals"
    " methodcaller os quit setattr super sys vars format format_map".split()
)
TWO_UNDERSCORES = ("__init__", "__eq__", "__repr__", "__str__", "__len__", "__all__", "__version__")
NODES = (
    ast.Module, ast.FunctionDef, ast.ClassDef, ast.Return, ast.Assign, ast.AugAssign, ast.For, ast.While, ast.If,
    ast.Raise, ast.Try, ast.ImportFrom, ast.Expr, ast.Pass, ast.Break, ast.Continue, ast.BoolOp, ast.BinOp,
    ast.UnaryOp, ast.Lambda, ast.IfExp, ast.Dict, ast.Set, ast.ListComp, ast.Compare, ast.Call, ast.FormattedValue,
    ast.JoinedStr, ast.Constant, ast.Attribute, ast.Subscript, ast.Name, ast.List, ast.Tuple, ast.Slice,
    ast.comprehension, ast.ExceptHandler, ast.arguments, ast.arg, ast.keyword, ast.alias, ast.expr_context,
    ast.boolop, ast.operator, ast.unaryop, ast.cmpop,
)
VALUES_OF_PYTHON = (str, int, list, dict, set, tuple, bytes)


def own_files():
    return sorted(PACKAGE.glob("*.py"))


def trees():
    return [(path.name, ast.parse(path.read_text(encoding="ascii"))) for path in own_files()]


def is_docstring(node):
    return isinstance(node, ast.Expr) and isinstance(node.value, ast.Constant) and isinstance(node.value.value, str)


def is_plain(node):
    if isinstance(node, (ast.Constant, ast.Name)):
        return True
    if isinstance(node, ast.UnaryOp):
        return isinstance(node.op, ast.USub) and isinstance(node.operand, ast.Constant)
    if isinstance(node, (ast.List, ast.Tuple)):
        return all(is_plain(part) for part in node.elts)
    return isinstance(node, ast.Dict) and all(part and is_plain(part) for part in node.keys + node.values)


def bound_names(tree):
    for node in ast.walk(tree):
        if isinstance(node, ast.Name) and isinstance(node.ctx, ast.Store):
            yield node.id
        elif isinstance(node, ast.arg):
            yield node.arg
        elif isinstance(node, ast.ExceptHandler) and node.name:
            yield node.name


def is_python_s_own_method(name):
    return any(hasattr(kind, name) for kind in VALUES_OF_PYTHON)


class TextTest(unittest.TestCase):
    def test_the_folder_holds_plainly_named_files_alone(self):
        self.assertTrue((PACKAGE / "__init__.py").is_file())
        for path in PACKAGE.iterdir():
            if path.name != "__pycache__":
                self.assertRegex(path.name, r"\A([a-z][a-z0-9_]*|__init__)\.py\Z")
                if path.stem != "__init__":
                    self.assertFalse(hasattr(builtins, path.stem), path.name)

    def test_signs_and_sizes(self):
        for path in own_files():
            text = path.read_bytes().decode("latin-1")
            with self.subTest(file=path.name):
                self.assertEqual(re.findall(r"[^ -~\n]", text), [])
                self.assertLessEqual(len(text.split("\n")), 400)
                self.assertLessEqual(max(len(row) for row in text.split("\n")), 120)

    def test_words_that_stand_nowhere(self):
        whole = r"\b(" + "|".join(BANNED_WORDS) + r")\b|dataclass|overload|contextmanager"
        for path in own_files():
            with self.subTest(file=path.name):
                self.assertIsNone(re.search(whole, path.read_text(encoding="ascii")))


class SyntaxTest(unittest.TestCase):
    def test_only_the_listed_forms(self):
        for name, tree in trees():
            for node in ast.walk(tree):
                self.assertIsInstance(node, NODES, name)
                self.check_form(name, node)

    def check_form(self, name, node):
        where = f"{name}:{getattr(node, 'lineno', 0)}"
        if isinstance(node, ast.Constant):
            self.assertNotIsInstance(node.value, (float, complex, bytes), where)
            self.assertFalse(isinstance(node.value, str) and "%" in node.value, where)
        self.assertNotIsInstance(node, (ast.Div, ast.MatMult), where)
        if isinstance(node, (ast.For, ast.While)):
            self.assertEqual(node.orelse, [], where)
        if isinstance(node, ast.Try):
            self.assertEqual(node.finalbody, [], where)
        if isinstance(node, ast.Assign):
            self.assertEqual(len(node.targets), 1, where)
            self.assertNotIsInstance(node.targets[0], (ast.Tuple, ast.List), where)
        if isinstance(node, ast.FormattedValue):
            self.assertIsInstance(node.value, ast.Name, where)
            self.assertIsNone(node.format_spec, where)
        if isinstance(node, ast.keyword):
            self.assertIn(node.arg, ("key", "reverse", "default", "start", "strict"), where)
        # Sets aren't used at all; where none is made, none is kept or walked.
        self.assertNotIsInstance(node, ast.Set, where)
        self.assertFalse(isinstance(node, ast.Name) and node.id in ("set", "frozenset"), where)
        if isinstance(node, ast.ListComp):
            self.assertEqual(len(node.generators), 1, where)
            self.assertLessEqual(len(node.generators[0].ifs), 1, where)
        if isinstance(node, ast.Compare) and any(isinstance(op, (ast.Is, ast.IsNot)) for op in node.ops):
            self.assertIn(ast.unparse(node.comparators[-1]), ("None", "True", "False"), where)

    def test_bare_expressions_are_calls_or_a_file_s_docstring(self):
        for name, tree in trees():
            for node in ast.walk(tree):
                if isinstance(node, ast.Expr) and not isinstance(node.value, ast.Call):
                    self.assertIs(node, tree.body[0], f"{name}:{node.lineno}")
                    self.assertTrue(is_docstring(node), f"{name}:{node.lineno}")

    def test_functions_and_classes(self):
        for name, tree in trees():
            for node in ast.walk(tree):
                if isinstance(node, ast.FunctionDef):
                    self.assertLessEqual(node.end_lineno - node.lineno + 1, 40, node.name)
                if isinstance(node, (ast.FunctionDef, ast.Lambda)):
                    rest = (node.args.vararg, node.args.kwarg, node.args.kwonlyargs, node.args.posonlyargs)
                    self.assertEqual(rest, (None, None, [], []), f"{name}:{node.lineno}")
                if isinstance(node, (ast.FunctionDef, ast.ClassDef)):
                    self.assertEqual(node.decorator_list, [], node.name)
                if isinstance(node, ast.ClassDef):
                    self.assertIn(node, tree.body)
                    self.assertLessEqual(len(node.bases), 1)
                    for part in node.body:
                        self.assertIsInstance(part, (ast.FunctionDef, ast.Pass), node.name)

    def test_names(self):
        for name, tree in trees():
            for node in ast.walk(tree):
                if isinstance(node, ast.Name):
                    self.assertNotIn(node.id, BANNED_NAMES, name)
                    if hasattr(builtins, node.id):
                        self.assertIn(node.id, OWN_NAMES, name)
                if isinstance(node, ast.Attribute) and is_python_s_own_method(node.attr):
                    self.assertIn(node.attr, OWN_METHODS, name)
            for bound in bound_names(tree):
                self.assertFalse(hasattr(builtins, bound), f"{name}: {bound}")
                self.assertRegex(bound, r"\A[A-Za-z][A-Za-z0-9_]*\Z", name)
            for node in ast.walk(tree):
                if isinstance(node, (ast.FunctionDef, ast.ClassDef)) and node.name.startswith("_"):
                    self.assertIn(node.name, TWO_UNDERSCORES, name)


class ObjectsTest(unittest.TestCase):
    def methods_and_values(self):
        methods, values = set(), set()
        for name, tree in trees():
            for node in ast.walk(tree):
                if isinstance(node, ast.ClassDef):
                    own = [part.name for part in node.body if isinstance(part, ast.FunctionDef)]
                    self.assertEqual(len(own), len(set(own)), node.name)
                    methods.update(own)
                elif isinstance(node, ast.Attribute) and isinstance(node.ctx, ast.Store):
                    self.assertEqual(ast.unparse(node.value), "self", name)
                    values.add(node.attr)
        return methods, values

    def test_no_name_is_a_method_here_and_a_value_there(self):
        methods, values = self.methods_and_values()
        self.assertEqual(methods & values, set())
        for name in (methods | values) - set(TWO_UNDERSCORES):
            self.assertFalse(is_python_s_own_method(name), name)
            self.assertFalse(hasattr(builtins, name), name)
            self.assertNotIn(name, BANNED_NAMES)
            self.assertRegex(name, r"\A[a-z][a-z0-9_]*\Z")

    def test_no_local_is_called_like_an_import_or_a_class_of_its_file(self):
        for name, tree in trees():
            tops = {node.name for node in tree.body if isinstance(node, ast.ClassDef)}
            for node in tree.body:
                if isinstance(node, ast.ImportFrom):
                    tops.update(part.asname or part.name for part in node.names)
            self.assertEqual(tops & set(bound_names(tree)), set(), name)

    def test_errors_are_the_program_s_own(self):
        own = {node.name for name, tree in trees() if name == "errors.py" for node in tree.body
               if isinstance(node, ast.ClassDef)}
        for name, tree in trees():
            for node in ast.walk(tree):
                if isinstance(node, ast.ExceptHandler):
                    self.assertIn(ast.unparse(node.type), own, f"{name}:{node.lineno}")
                if isinstance(node, ast.Raise):
                    self.assertIsInstance(node.exc, ast.Call, f"{name}:{node.lineno}")
                    self.assertIn(ast.unparse(node.exc.func), own, f"{name}:{node.lineno}")

    def test_what_is_walked_is_walked_at_once(self):
        takers = ("list", "tuple", "dict", "sorted", "sum", "any", "all", "enumerate", "zip", "min", "max")
        for name, tree in trees():
            walked = [node.iter for node in ast.walk(tree) if isinstance(node, (ast.For, ast.comprehension))]
            for node in ast.walk(tree):
                if isinstance(node, ast.Call) and ast.unparse(node.func) in takers:
                    walked.extend(node.args[:1])
            for node in ast.walk(tree):
                if isinstance(node, ast.Call) and isinstance(node.func, ast.Name):
                    if node.func.id in ("zip", "enumerate", "reversed", "range"):
                        self.assertTrue(any(node is other for other in walked), f"{name}:{node.lineno}")


class TopTest(unittest.TestCase):
    def test_the_package_draws_on_itself_alone(self):
        files = [path.stem for path in own_files()]
        for name, tree in trees():
            for node in ast.walk(tree):
                if isinstance(node, ast.ImportFrom):
                    with self.subTest(file=name, line=node.lineno):
                        self.assertIn(node, tree.body)
                        self.assertEqual(node.level, 0)
                        package, dot, stem = node.module.partition(".")
                        self.assertEqual(package, "stairgauge")
                        self.assertIn(stem, files)
                        self.assertNotIn("*", [part.name for part in node.names])

    def test_no_two_files_draw_from_one_another(self):
        draws = {}
        for name, tree in trees():
            modules = [node.module for node in tree.body if isinstance(node, ast.ImportFrom)]
            draws[name[:-3]] = [module.partition(".")[2] for module in modules]
        while draws:
            ends = [name for name in draws if not any(drawn in draws for drawn in draws[name])]
            self.assertTrue(ends, f"a circle of imports among {sorted(draws)}")
            for name in ends:
                del draws[name]

    def test_nothing_is_kept_at_a_file_s_top(self):
        for name, tree in trees():
            tops = []
            for spot, node in enumerate(tree.body):
                with self.subTest(file=name, line=node.lineno):
                    if isinstance(node, ast.Assign):
                        self.assertIsInstance(node.targets[0], ast.Name)
                        self.assertTrue(is_plain(node.value))
                        tops.append(node.targets[0].id)
                    elif isinstance(node, (ast.FunctionDef, ast.ClassDef)):
                        tops.append(node.name)
                    elif isinstance(node, ast.ImportFrom):
                        tops.extend(part.asname or part.name for part in node.names)
                    else:
                        self.assertTrue(spot == 0 and is_docstring(node))
            self.assertEqual(len(tops), len(set(tops)), f"{name} binds a name twice")


if __name__ == "__main__":
    unittest.main()

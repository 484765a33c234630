"""The package's files against the rules of LANGUAGE.md that can be read off them one by one."""

import ast
import builtins
import pathlib
import re
import unittest

PACKAGE = pathlib.Path(__file__).resolve().parent.parent / "hedgerecord"

STATEMENTS = (ast.Assign, ast.AugAssign, ast.If, ast.While, ast.For, ast.Return, ast.Break, ast.Continue, ast.Pass,
              ast.Raise, ast.Try, ast.Expr, ast.FunctionDef, ast.ClassDef, ast.ImportFrom)
EXPRESSIONS = (ast.Constant, ast.Name, ast.List, ast.Tuple, ast.Dict, ast.BinOp, ast.UnaryOp, ast.BoolOp, ast.Compare,
               ast.IfExp, ast.Call, ast.Attribute, ast.Subscript, ast.Slice, ast.ListComp, ast.Lambda, ast.JoinedStr,
               ast.FormattedValue)
OWN_OF_PYTHON = set("""len range enumerate zip min max sum abs sorted reversed int str bool list tuple dict set frozenset
    isinstance ord repr any all divmod Exception ValueError TypeError KeyError IndexError LookupError ZeroDivisionError
    ArithmeticError OverflowError RuntimeError NotImplementedError AttributeError StopIteration""".split())
METHODS = set("""append clear copy count endswith extend find get index insert isalnum isalpha isdigit islower isspace
    isupper items join keys ljust lower lstrip partition pop remove replace reverse rfind rjust rpartition rsplit rstrip
    setdefault split splitlines startswith strip update upper values zfill bit_length""".split())
NO_WORDS = r"\b(type|typing|typing_extensions|enum|Enum|IntEnum|StrEnum|Flag|IntFlag|Generic|Protocol|ABC|ABCMeta|" \
           r"namedtuple|NamedTuple|TypedDict|TYPE_CHECKING|abstractmethod)\b|dataclass|overload|contextmanager"
NO_NAMES = set("""register mro elements open input version_info with_traceback add_note format format_map attrgetter
    breakpoint builtins compile copyright credits delattr dir eval exec exit gc getattr globals hasattr help id importlib
    license locals methodcaller os quit setattr super vars sys chr""".split())
WALKED = ("zip", "enumerate", "reversed", "range", "items", "keys", "values")
WALKERS = ("list", "tuple", "dict", "sorted", "sum", "any", "all", "enumerate", "zip", "min", "max", "join")
# Lists, texts and their kin have these as methods or values; an object's own value may not be called so (L26).
TAKEN_VALUES = {word for kind in (str, int, list, tuple, dict, set, bytes) for word in dir(kind)} - set(
    "count index title find get join lower upper split strip copy add".split())
PLAIN_METHODS = ("__init__", "__eq__", "__repr__", "__str__", "__len__")


def files():
    return sorted(PACKAGE.glob("*.py"))


def trees():
    return [(path.name, ast.parse(path.read_text("utf-8"))) for path in files()]


def nodes(*kinds):
    return [(name, node) for name, tree in trees() for node in ast.walk(tree) if isinstance(node, kinds)]


def is_plain(node, functions):
    if isinstance(node, ast.Tuple):
        return all(is_plain(part, functions) for part in node.elts)
    if isinstance(node, (ast.List, ast.Dict)):
        parts = node.elts if isinstance(node, ast.List) else node.keys + node.values
        return all(is_plain(part, functions) and not isinstance(part, (ast.List, ast.Dict)) for part in parts)
    return isinstance(node, ast.Constant) or isinstance(node, ast.Name) and node.id in functions


class Files(unittest.TestCase):
    def test_only_plain_files(self):
        for path in PACKAGE.iterdir():
            if path.name != "__pycache__":
                self.assertRegex(path.name, r"\A([a-z][a-z0-9_]*|__init__)\.py\Z")
                self.assertNotIn(path.stem, dir(builtins))
                self.assertNotRegex(path.stem, r"\A(test.*|site|conftest|sitecustomize|usercustomize)\Z")
        self.assertTrue((PACKAGE / "__init__.py").is_file())

    def test_signs_and_sizes(self):
        for path in files():
            text = path.read_text("utf-8")
            self.assertRegex(text, r"\A[ -~\n]*\Z", path)
            self.assertNotRegex(text, NO_WORDS, path)
            self.assertLessEqual(text.count("\n"), 400, path)
            self.assertLessEqual(max(len(line) for line in text.split("\n")), 120, path)

    def test_functions_are_short(self):
        for name, node in nodes(ast.FunctionDef):
            self.assertLessEqual(node.end_lineno - node.lineno + 1, 40, (name, node.name))

    def test_the_top_of_a_file(self):
        for name, tree in trees():
            functions = [node.name for node in tree.body if isinstance(node, ast.FunctionDef)]
            bound = []
            for place, node in enumerate(tree.body):
                if isinstance(node, (ast.FunctionDef, ast.ClassDef)):
                    bound.append(node.name)
                elif isinstance(node, ast.ImportFrom):
                    bound.extend(alias.asname or alias.name for alias in node.names)
                elif isinstance(node, ast.Assign):
                    self.assertTrue(is_plain(node.value, functions), (name, node.lineno))
                    bound.append(node.targets[0].id)
                else:
                    self.assertEqual(place, 0, (name, node.lineno))
                    self.assertIsInstance(node.value.value, str)
            self.assertEqual(len(bound), len(set(bound)), name)

    def test_imports(self):
        drawn = {}
        for name, tree in trees():
            drawn[name] = []
            for node in ast.walk(tree):
                self.assertNotIsInstance(node, ast.Import)
                if isinstance(node, ast.ImportFrom):
                    self.assertIn(node, tree.body)
                    self.assertRegex(node.module, r"\Ahedgerecord\.[a-z]+\Z")
                    source = dict(trees())[node.module.split(".")[1] + ".py"]
                    self.check_defined(node, source)
                    drawn[name].append(node.module.split(".")[1] + ".py")
        self.assertEqual(drawn["__init__.py"], [])
        while drawn:
            free = [name for name in drawn if not any(other in drawn for other in drawn[name])]
            self.assertTrue(free, drawn)
            drawn = {name: others for name, others in drawn.items() if name not in free}

    def check_defined(self, node, source):
        defined = [part.name for part in source.body if isinstance(part, (ast.FunctionDef, ast.ClassDef))]
        defined += [part.targets[0].id for part in source.body if isinstance(part, ast.Assign)]
        for alias in node.names:
            self.assertIn(alias.name, defined)

    def test_no_import_for_nothing(self):
        for name, tree in trees():
            used = {node.id for node in ast.walk(tree) if isinstance(node, ast.Name)}
            for node in tree.body:
                if isinstance(node, ast.ImportFrom):
                    self.assertEqual([a.name for a in node.names if a.name not in used], [], name)


class Forms(unittest.TestCase):
    def test_statements_and_expressions(self):
        for name, node in nodes(ast.stmt):
            self.assertIsInstance(node, STATEMENTS, (name, node.lineno))
        for name, node in nodes(ast.expr):
            self.assertIsInstance(node, EXPRESSIONS, (name, node.lineno))

    def test_assignments_have_one_target(self):
        for name, node in nodes(ast.Assign):
            self.assertEqual(len(node.targets), 1, (name, node.lineno))
            self.assertIsInstance(node.targets[0], (ast.Name, ast.Attribute, ast.Subscript), (name, node.lineno))

    def test_loops_and_lone_expressions(self):
        for name, node in nodes(ast.For, ast.While):
            self.assertEqual(node.orelse, [], (name, node.lineno))
        for name, node in nodes(ast.Expr):
            is_text = isinstance(node.value, ast.Constant) and isinstance(node.value.value, str)
            self.assertTrue(is_text or isinstance(node.value, ast.Call), (name, node.lineno))

    def test_values(self):
        for name, node in nodes(ast.Constant):
            self.assertIsInstance(node.value, (int, str, type(None)), (name, node.lineno))
        for name, node in nodes(ast.BinOp, ast.AugAssign):
            self.assertNotIsInstance(node.op, (ast.Div, ast.MatMult, ast.Pow), (name, node.lineno))
        for name, node in nodes(ast.Compare):
            if any(isinstance(op, (ast.Is, ast.IsNot)) for op in node.ops):
                self.assertTrue(all(isinstance(part, ast.Constant) for part in node.comparators), (name, node.lineno))

    def test_functions_and_classes(self):
        for name, node in nodes(ast.FunctionDef, ast.ClassDef):
            self.assertEqual(node.decorator_list, [], (name, node.name))
        for name, node in nodes(ast.arguments):
            self.assertFalse(node.vararg or node.kwarg or node.kwonlyargs or node.posonlyargs, name)
        for name, node in nodes(ast.ClassDef):
            self.assertLessEqual(len(node.bases), 1, (name, node.name))
            for part in node.body:
                self.assertIsInstance(part, (ast.FunctionDef, ast.Expr, ast.Pass), (name, node.name))


class Names(unittest.TestCase):
    def test_names(self):
        for name, tree in trees():
            top = {node.name for node in tree.body if isinstance(node, ast.ClassDef)}
            for node in tree.body:
                if isinstance(node, ast.ImportFrom):
                    top |= {alias.name for alias in node.names}
            for word in self.bound(tree):
                self.assertRegex(word, r"\A[A-Za-z][A-Za-z0-9_]*\Z", name)
                self.assertNotIn(word, dir(builtins), name)
                self.assertNotIn(word, NO_NAMES, name)
                self.assertNotIn(word, top, name)

    def bound(self, tree):
        words = [node.id for node in ast.walk(tree) if isinstance(node, ast.Name) and isinstance(node.ctx, ast.Store)]
        words += [node.arg for node in ast.walk(tree) if isinstance(node, ast.arg)]
        return words + [node.name for node in tree.body if isinstance(node, ast.FunctionDef)]

    def test_pythons_own_names(self):
        for name, node in nodes(ast.Name):
            if node.id in dir(builtins):
                self.assertIn(node.id, OWN_OF_PYTHON, (name, node.lineno))

    def test_methods_of_pythons_own_values(self):
        own = {node.name for _, cls in nodes(ast.ClassDef) for node in cls.body if isinstance(node, ast.FunctionDef)}
        self.assertTrue(all(word in PLAIN_METHODS for word in own if word.startswith("_")))
        for name, tree in trees():
            called = {id(node.func) for node in ast.walk(tree) if isinstance(node, ast.Call)}
            for node in ast.walk(tree):
                if isinstance(node, ast.Attribute):
                    self.assertNotRegex(node.attr, r"\A_")
                    self.assertNotIn(node.attr, NO_NAMES)
                    if id(node) in called:
                        self.assertIn(node.attr, METHODS | own, (name, node.lineno))


def called_name(node):
    return node.func.id if isinstance(node.func, ast.Name) else node.func.attr


class Walks(unittest.TestCase):
    def test_walked_on_the_spot(self):
        for name, tree in trees():
            walked = set()
            for node in ast.walk(tree):
                if isinstance(node, (ast.For, ast.comprehension)):
                    walked.add(id(node.iter))
                elif isinstance(node, ast.Call) and called_name(node) in WALKERS:
                    walked.update(id(part) for part in node.args)
            for node in ast.walk(tree):
                if isinstance(node, ast.Call) and called_name(node) in WALKED:
                    self.assertIn(id(node), walked, (name, node.lineno))

    def test_what_is_walked_is_not_changed(self):
        for name, loop in nodes(ast.For):
            parts = {ast.unparse(node) for node in ast.walk(loop.iter) if isinstance(node, (ast.Name, ast.Attribute))}
            for node in [node for row in loop.body for node in ast.walk(row)]:
                if isinstance(node, ast.Subscript) and isinstance(node.ctx, ast.Store):
                    self.assertNotIn(ast.unparse(node.value), parts, (name, node.lineno))
                if isinstance(node, ast.Call) and isinstance(node.func, ast.Attribute):
                    self.assertNotIn(ast.unparse(node.func.value), parts, (name, node.lineno))

    def test_no_sets(self):
        for name, node in nodes(ast.Name):
            self.assertNotIn(node.id, ("set", "frozenset"), (name, node.lineno))

    def test_a_comprehension_is_plain(self):
        for name, node in nodes(ast.ListComp):
            self.assertEqual(len(node.generators), 1, (name, node.lineno))
            self.assertLessEqual(len(node.generators[0].ifs), 1, (name, node.lineno))

    def test_calls_without_keywords(self):
        for name, node in nodes(ast.Call):
            self.assertEqual(node.keywords, [], (name, node.lineno))

    def test_values_of_objects(self):
        for name, node in nodes(ast.Attribute):
            if isinstance(node.ctx, ast.Store):
                self.assertNotIn(node.attr, TAKEN_VALUES, (name, node.lineno))
                self.assertIsInstance(node.value, (ast.Name, ast.Attribute), (name, node.lineno))

    def test_lists_of_the_top_are_not_there(self):
        for name, tree in trees():
            for node in tree.body:
                if isinstance(node, ast.Assign):
                    self.assertNotIsInstance(node.value, (ast.List, ast.Dict), (name, node.lineno))

    def test_no_annotations(self):
        for name, node in nodes(ast.FunctionDef, ast.arg):
            self.assertIsNone(node.returns if isinstance(node, ast.FunctionDef) else node.annotation, name)


class Kept(unittest.TestCase):
    def test_no_clock_file_or_printing(self):
        for path in files():
            self.assertIsNone(re.search(r"\b(print|open|input|random|time|sys|os)\(", path.read_text("utf-8")), path)


if __name__ == "__main__":
    unittest.main()

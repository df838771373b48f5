"""The package's files keep to the part of Python that the project allows itself (those rules that a walk can see)."""

import ast
import builtins
import pathlib
import re
import tokenize
import unittest

ROOT = pathlib.Path(__file__).resolve().parent.parent / "treemerge"
FILES = sorted(ROOT.rglob("*.py"))
STATEMENTS = (ast.Assign, ast.AugAssign, ast.If, ast.While, ast.For, ast.Return, ast.Break, ast.Continue, ast.Pass, ast.Raise,
              ast.Try, ast.Expr, ast.FunctionDef, ast.ClassDef, ast.ImportFrom)
EXPRESSIONS = (ast.Constant, ast.List, ast.Tuple, ast.Dict, ast.BinOp, ast.UnaryOp, ast.BoolOp, ast.Compare, ast.IfExp, ast.Call,
               ast.Attribute, ast.Subscript, ast.Slice, ast.ListComp, ast.Name, ast.Lambda, ast.JoinedStr, ast.FormattedValue)
OWN_NAMES = set("""len range enumerate zip min max sum abs sorted reversed int str bool list tuple dict set frozenset isinstance ord
    repr any all divmod Exception ValueError TypeError KeyError IndexError LookupError ZeroDivisionError ArithmeticError
    OverflowError RuntimeError NotImplementedError AttributeError StopIteration""".split())
METHODS = set("""append clear copy count endswith extend find get index insert isalnum isalpha isdigit islower isspace isupper items
    join keys ljust lower lstrip partition pop remove replace reverse rfind rjust rpartition rsplit rstrip setdefault split
    splitlines startswith strip update upper values zfill bit_length""".split())
NOT_USED = set("""register mro elements open input version_info with_traceback add_note attrgetter breakpoint builtins compile
    copyright credits delattr dir eval exec exit gc getattr globals hasattr help id importlib license locals methodcaller os quit
    setattr super type vars sys""".split())
NO_WORDS = re.compile(r"\b(type|typing|typing_extensions|enum|Enum|IntEnum|StrEnum|Flag|IntFlag|Generic|Protocol|ABC|ABCMeta"
                      r"|namedtuple|NamedTuple|TypedDict|TYPE_CHECKING|abstractmethod)\b|dataclass|overload|contextmanager")
NO_VALUES = set("items keys values pop update append clear extend insert remove reverse setdefault sort args encode format".split())
PYTHONS_OWN = {name for kind in (str, int, list, dict, set, bytes, tuple) for name in dir(kind)}
FREE_VALUES = set("count index title find get join lower upper split strip copy add".split())
WALKED = ("zip", "enumerate", "reversed", "range")
TAKERS = ("list", "tuple", "dict", "sorted", "sum", "any", "all", "enumerate", "zip", "min", "max")


def plain(node):
    if isinstance(node, ast.Constant):
        return not isinstance(node.value, (float, bytes, complex))
    if isinstance(node, ast.UnaryOp):
        return isinstance(node.op, ast.USub) and plain(node.operand)
    if isinstance(node, (ast.List, ast.Tuple)):
        return all(plain(value) for value in node.elts)
    return isinstance(node, ast.Dict) and all(plain(value) for value in node.keys + node.values)


def bound_names(tree):
    for node in ast.walk(tree):
        if isinstance(node, ast.Name) and isinstance(node.ctx, ast.Store):
            yield node.id
        elif isinstance(node, ast.arg):
            yield node.arg
        elif isinstance(node, (ast.FunctionDef, ast.ClassDef)):
            yield node.name
        elif isinstance(node, ast.ExceptHandler) and node.name:
            yield node.name


class Language(unittest.TestCase):
    def setUp(self):
        self.texts = {path: path.read_bytes().decode("utf-8") for path in FILES}
        self.trees = {path: ast.parse(text) for path, text in self.texts.items()}

    def each(self, kinds):
        for path, tree in self.trees.items():
            for node in ast.walk(tree):
                if isinstance(node, kinds):
                    yield "{}:{}".format(path.name, getattr(node, "lineno", 0)), node

    def test_files(self):
        self.assertIn(ROOT / "__init__.py", FILES)
        others = [path for path in ROOT.rglob("*") if path.suffix != ".py" and "__pycache__" not in path.parts]
        self.assertEqual(others, [])
        for path in FILES:
            self.assertRegex(path.name, r"^(__init__|[a-z][a-z0-9_]*)\.py$")
            self.assertNotIn(path.stem, set(dir(builtins)) | {"test", "tests", "testing", "site", "conftest"})
            self.assertIsNone(NO_WORDS.search(path.stem))

    def test_signs_and_sizes(self):
        for path, text in self.texts.items():
            self.assertRegex(text, r"\A[ -~\n]*\Z", path.name)
            rows = text.split("\n")
            self.assertLessEqual(len(rows), 401, path.name)
            self.assertLessEqual(max(len(row) for row in rows), 120, path.name)
            self.assertIsNone(NO_WORDS.search(text), path.name)
        for place, node in self.each(ast.FunctionDef):
            self.assertLessEqual(node.end_lineno - node.lineno + 1, 40, place)

    def test_the_top_of_a_file(self):
        for path, tree in self.trees.items():
            bound = []
            for node in tree.body:
                if isinstance(node, ast.Assign):
                    self.assertTrue(plain(node.value), (path.name, node.lineno))
                    if isinstance(node.value, (ast.List, ast.Dict)):
                        inner = [part for part in ast.walk(node.value) if isinstance(part, (ast.List, ast.Dict))]
                        self.assertEqual(len(inner), 1, (path.name, node.lineno))
                    bound.append(node.targets[0].id)
                elif isinstance(node, (ast.FunctionDef, ast.ClassDef)):
                    bound.append(node.name)
                elif isinstance(node, ast.ImportFrom):
                    bound += [alias.name for alias in node.names]
                else:
                    self.assertIsInstance(node, ast.Expr)
                    self.assertIsInstance(node.value.value, str)
            self.assertEqual(len(bound), len(set(bound)), path.name)

    def test_imports(self):
        drawn = {path.stem: set() for path in FILES}
        defined = {path.stem: {getattr(node, "name", None) or node.targets[0].id for node in tree.body
                               if isinstance(node, (ast.FunctionDef, ast.ClassDef, ast.Assign))}
                   for path, tree in self.trees.items()}
        for path, tree in self.trees.items():
            for node in ast.walk(tree):
                self.assertNotIsInstance(node, ast.Import)
                if isinstance(node, ast.ImportFrom):
                    self.assertIn(node, tree.body)
                    self.assertEqual(node.level, 0)
                    package, _, module = node.module.partition(".")
                    self.assertEqual(package, "treemerge")
                    for alias in node.names:
                        self.assertIsNone(alias.asname)
                        self.assertIn(alias.name, defined[module])
                    drawn[path.stem].add(module)
        self.assertEqual(drawn["__init__"], set())
        while drawn:
            done = [name for name, others in drawn.items() if not others & set(drawn)]
            self.assertTrue(done, "files draw from one another")
            for name in done:
                drawn.pop(name)

    def test_statements_and_expressions(self):
        for place, node in self.each(ast.stmt):
            self.assertIsInstance(node, STATEMENTS, place)
            if isinstance(node, ast.Assign):
                self.assertEqual(len(node.targets), 1, place)
                self.assertNotIsInstance(node.targets[0], (ast.Tuple, ast.List), place)
            if isinstance(node, (ast.For, ast.While)):
                self.assertEqual(node.orelse, [], place)
            if isinstance(node, ast.Try):
                self.assertEqual(node.finalbody, [], place)
            if isinstance(node, ast.Expr):
                self.assertIsInstance(node.value, (ast.Call, ast.Constant), place)
        for place, node in self.each(ast.expr):
            self.assertIsInstance(node, EXPRESSIONS + (ast.Set,), place)
            self.assertNotIsInstance(node, ast.Set, place)
            if isinstance(node, ast.ListComp):
                self.assertEqual(len(node.generators), 1, place)
                self.assertLessEqual(len(node.generators[0].ifs), 1, place)
            if isinstance(node, ast.BinOp):
                self.assertNotIsInstance(node.op, (ast.Div, ast.Pow, ast.MatMult), place)
            if isinstance(node, ast.Constant):
                self.assertIsInstance(node.value, (int, str, type(None)), place)
                self.assertFalse(isinstance(node.value, str) and "%" in node.value, place)
            if isinstance(node, ast.Compare):
                for operator, side in zip(node.ops, node.comparators):
                    if isinstance(operator, (ast.Is, ast.IsNot)):
                        self.assertIsInstance(side, ast.Constant, place)

    def test_functions_and_classes(self):
        for place, node in self.each((ast.FunctionDef, ast.ClassDef)):
            self.assertEqual(node.decorator_list, [], place)
            if isinstance(node, ast.FunctionDef):
                rest = node.args
                self.assertFalse(rest.vararg or rest.kwarg or rest.kwonlyargs or rest.posonlyargs or node.returns, place)
                self.assertTrue(all(plain(value) for value in rest.defaults), place)
            else:
                self.assertLessEqual(len(node.bases), 1, place)
                self.assertEqual(node.keywords, [], place)
                for inner in node.body:
                    self.assertTrue(isinstance(inner, ast.FunctionDef) or isinstance(inner.value.value, str), place)
        methods = {inner.name for place, node in self.each(ast.ClassDef) for inner in node.body
                   if isinstance(inner, ast.FunctionDef)}
        values = {node.attr for place, node in self.each(ast.Attribute) if isinstance(node.ctx, ast.Store)}
        self.assertEqual(methods & values, set())
        self.assertEqual(values & (NO_VALUES | (PYTHONS_OWN - FREE_VALUES)), set())
        self.assertEqual(methods & (PYTHONS_OWN - METHODS - {"add", "discard", "__init__"}), set())
        read = {node.attr for place, node in self.each(ast.Attribute)}
        self.assertLessEqual(read, methods | values | METHODS)

    def test_names(self):
        for path, tree in self.trees.items():
            top = {node.name for node in tree.body if isinstance(node, ast.ClassDef)}
            top |= {alias.name for node in tree.body if isinstance(node, ast.ImportFrom) for alias in node.names}
            names = list(bound_names(tree))
            for name in names:
                if name != "__init__":
                    self.assertRegex(name, r"^[A-Za-z][A-Za-z0-9_]*$", path.name)
                self.assertNotIn(name, set(dir(builtins)) | NOT_USED, path.name)
            for node in ast.walk(tree):
                if isinstance(node, ast.FunctionDef):
                    inner = {name for part in node.body + [node.args] for name in bound_names(part)}
                    self.assertEqual(inner & top, set(), (path.name, node.lineno))
                if isinstance(node, ast.Name) and node.id in dir(builtins):
                    self.assertIn(node.id, OWN_NAMES, (path.name, node.lineno))
                if isinstance(node, ast.Attribute):
                    self.assertNotIn(node.attr, NOT_USED, (path.name, node.lineno))

    def test_what_is_walked_at_once(self):
        for path, tree in self.trees.items():
            fine = set()
            for node in ast.walk(tree):
                if isinstance(node, (ast.For, ast.comprehension)):
                    fine.add(node.iter)
                if isinstance(node, ast.Call) and isinstance(node.func, ast.Name) and node.func.id in TAKERS:
                    fine.update(node.args[:1])
            for node in ast.walk(tree):
                if isinstance(node, ast.Call):
                    name = getattr(node.func, "id", None) or getattr(node.func, "attr", None)
                    if name in WALKED + ("items", "keys", "values"):
                        self.assertIn(node, fine, (path.name, node.lineno))

    def test_errors(self):
        for place, node in self.each(ast.ExceptHandler):
            self.assertIsInstance(node.type, ast.Name, place)
            self.assertNotIn(node.type.id, ("Exception", "TypeError"), place)
        for place, node in self.each(ast.Raise):
            self.assertIsInstance(node.exc, ast.Call, place)

    def test_remarks_hold_no_tabs_and_no_escapes(self):
        for path in FILES:
            with open(path, "rb") as file:
                for token in tokenize.tokenize(file.readline):
                    if token.type == tokenize.STRING:
                        self.assertIsNone(re.search(r"\\[^nt\\'\"]", token.string), (path.name, token.start))


if __name__ == "__main__":
    unittest.main()

"""The package's files keep to the part of Python that the program is written in.

Each check bears the number of the rule that it looks after. What can only be seen by reading is
not checked here.
"""

import ast
import builtins
import pathlib
import re
import unittest

PACKAGE = pathlib.Path(__file__).resolve().parent.parent / "stampword"

STATEMENTS = (ast.Assign, ast.AugAssign, ast.If, ast.While, ast.For, ast.Return, ast.Break, ast.Continue,
              ast.Pass, ast.Raise, ast.Try, ast.Expr, ast.FunctionDef, ast.ClassDef, ast.ImportFrom)
EXPRESSIONS = (ast.Constant, ast.Name, ast.List, ast.Tuple, ast.Dict, ast.BinOp, ast.UnaryOp, ast.BoolOp,
               ast.Compare, ast.IfExp, ast.Call, ast.Attribute, ast.Subscript, ast.Slice, ast.ListComp,
               ast.JoinedStr, ast.FormattedValue, ast.Lambda)
OWN_NAMES = set("""len range enumerate zip min max sum abs sorted reversed int str bool list tuple dict set
    frozenset isinstance ord repr any all divmod Exception ValueError TypeError KeyError IndexError LookupError
    ZeroDivisionError ArithmeticError OverflowError RuntimeError NotImplementedError AttributeError
    StopIteration""".split())
METHODS = set("""append clear copy count endswith extend find get index insert isalnum isalpha isdigit islower
    isspace isupper items join keys ljust lower lstrip partition pop remove replace reverse rfind rjust
    rpartition rsplit rstrip setdefault split splitlines startswith strip update upper values zfill
    bit_length""".split())
WALKED = ("zip", "enumerate", "reversed", "range")
WALKED_METHODS = ("items", "keys", "values")
WALKERS = ("list", "tuple", "dict", "sorted", "sum", "any", "all", "enumerate", "zip", "min", "max")
WORDS_OUT = re.compile(r"\b(type|typing|typing_extensions|enum|Enum|IntEnum|StrEnum|Flag|IntFlag|Generic"
                       r"|Protocol|ABC|ABCMeta|namedtuple|NamedTuple|TypedDict|TYPE_CHECKING|abstractmethod)\b"
                       r"|dataclass|overload|contextmanager")
NAMES_OUT = set("""register mro elements open input version_info with_traceback add_note attrgetter breakpoint builtins
    compile copyright credits delattr dir eval exec exit gc getattr globals hasattr help id importlib license locals
    methodcaller os quit setattr super type vars sys chr print format format_map""".split())
VALUES_LIKE_PYTHONS = set("count index title find get join lower upper split strip copy add".split())
PYTHONS_OWN = set(dir(str) + dir(int) + dir(list) + dir(tuple) + dir(dict) + dir(set) + dir(bytes))
KEYWORDS = {"sorted": ("key", "reverse"), "min": ("key", "default"), "max": ("key", "default"), "sum": ("start",),
            "enumerate": ("start",), "zip": ("strict",)}
TWO_UNDERSCORES = ("__init__", "__eq__", "__repr__", "__str__", "__len__")


def is_docstring(node):
    return isinstance(node, ast.Expr) and isinstance(node.value, ast.Constant) and isinstance(node.value.value, str)


def bound_names(tree):
    names = [node.id for node in ast.walk(tree) if isinstance(node, ast.Name) and isinstance(node.ctx, ast.Store)]
    names += [node.arg for node in ast.walk(tree) if isinstance(node, ast.arg)]
    names += [node.name for node in ast.walk(tree) if isinstance(node, (ast.FunctionDef, ast.ClassDef))]
    return names


def imported_names(tree):
    return [alias.name for node in ast.walk(tree) if isinstance(node, ast.ImportFrom) for alias in node.names]


def class_methods(tree):
    classes = [node for node in ast.walk(tree) if isinstance(node, ast.ClassDef)]
    return [part.name for node in classes for part in node.body if isinstance(part, ast.FunctionDef)]


def class_values(tree):
    return [node.attr for node in ast.walk(tree) if isinstance(node, ast.Attribute) and isinstance(node.ctx, ast.Store)]


def drawn_from(tree):
    return [node.module.split(".")[1] for node in ast.walk(tree) if isinstance(node, ast.ImportFrom)]


def is_walked(node):
    if not isinstance(node, ast.Call):
        return False
    if isinstance(node.func, ast.Name):
        return node.func.id in WALKED
    return isinstance(node.func, ast.Attribute) and node.func.attr in WALKED_METHODS


def places_to_walk(tree):
    places = [node.iter for node in ast.walk(tree) if isinstance(node, (ast.For, ast.comprehension))]
    for node in ast.walk(tree):
        if isinstance(node, ast.Call) and isinstance(node.func, ast.Name) and node.func.id in WALKERS:
            places += node.args[:] if node.func.id == "zip" else node.args[:1]
        if isinstance(node, ast.Call) and isinstance(node.func, ast.Attribute) and node.func.attr == "join":
            places += node.args
    return places


class Language(unittest.TestCase):
    def setUp(self):
        self.files = sorted(PACKAGE.rglob("*.py"))
        self.texts = {path: path.read_text(encoding="utf-8") for path in self.files}
        self.trees = {path: ast.parse(text) for path, text in self.texts.items()}

    def each_node(self, kinds):
        for path, tree in self.trees.items():
            for node in ast.walk(tree):
                if isinstance(node, kinds):
                    yield f"{path.name}:{getattr(node, 'lineno', 0)}", node

    def test_l1_l14_files(self):
        self.assertIn(PACKAGE / "__init__.py", self.files)
        for path in PACKAGE.rglob("*"):
            if "__pycache__" not in path.parts:
                self.assertRegex(path.name, r"^([a-z][a-z0-9_]*|__init__|__main__)\.py$")
                self.assertNotIn(path.stem, dir(builtins))
                self.assertNotRegex(path.stem, r"^(test|tests|testing|test_.*|site|conftest)$")

    def test_l10_l14_size_and_signs(self):
        for path, text in self.texts.items():
            self.assertRegex(text, r"\A[ -~\n]*\Z", path.name)
            self.assertLessEqual(len(text.splitlines()), 400, path.name)
            for row in text.splitlines():
                self.assertLessEqual(len(row), 120, path.name)
        for place, node in self.each_node(ast.FunctionDef):
            self.assertLessEqual(node.end_lineno - node.lineno + 1, 40, place)

    def test_l2_l16_imports(self):
        for place, node in self.each_node((ast.Import, ast.ImportFrom)):
            self.assertIsInstance(node, ast.ImportFrom, place)
            self.assertEqual(node.level, 0, place)
            self.assertRegex(node.module, r"^stampword\.[a-z_]+$", place)
            source = PACKAGE / (node.module.split(".")[1] + ".py")
            for alias in node.names:
                self.assertIn(alias.name, bound_names(self.trees[source]), place)

    def test_l16_no_two_files_draw_from_one_another(self):
        drawn = {path.stem: drawn_from(tree) for path, tree in self.trees.items()}
        for stem in drawn:
            seen, waiting = set(), list(drawn[stem])
            while waiting:
                current = waiting.pop()
                self.assertNotEqual(current, stem)
                if current not in seen:
                    seen.add(current)
                    waiting += drawn[current]
        self.assertEqual(len(self.trees[PACKAGE / "__init__.py"].body), 1)

    def test_l3_l15_top_of_a_file(self):
        for path, tree in self.trees.items():
            for at, node in enumerate(tree.body):
                plain = isinstance(node, (ast.ImportFrom, ast.FunctionDef, ast.ClassDef, ast.Assign))
                self.assertTrue(plain or (at == 0 and is_docstring(node)), f"{path.name}:{node.lineno}")
            tops = [node.name for node in tree.body if isinstance(node, (ast.FunctionDef, ast.ClassDef))]
            tops += [target.id for node in tree.body if isinstance(node, ast.Assign) for target in node.targets]
            tops += imported_names(tree)
            self.assertEqual(len(tops), len(set(tops)), path.name)
            for node in tree.body:
                if isinstance(node, ast.Assign):
                    self.assertIsInstance(node.value, (ast.Constant, ast.Tuple), f"{path.name}:{node.lineno}")

    def test_l15_parameters_and_locals(self):
        for path, tree in self.trees.items():
            kept = imported_names(tree) + [node.name for node in tree.body if isinstance(node, ast.ClassDef)]
            for node in ast.walk(tree):
                if isinstance(node, (ast.FunctionDef, ast.Lambda)):
                    names = [part.id for part in ast.walk(node)
                             if isinstance(part, ast.Name) and isinstance(part.ctx, ast.Store)]
                    names += [part.arg for part in ast.walk(node) if isinstance(part, ast.arg)]
                    self.assertEqual(set(names) & (set(kept) | set(dir(builtins))), set(), f"{path.name}:{node.lineno}")

    def test_l4_l21_functions(self):
        for place, node in self.each_node((ast.FunctionDef, ast.Lambda)):
            arguments = node.args
            self.assertFalse(arguments.vararg or arguments.kwarg or arguments.kwonlyargs or arguments.posonlyargs,
                             place)
            self.assertFalse(getattr(node, "decorator_list", []), place)
            self.assertFalse(getattr(node, "returns", None), place)

    def test_l5_classes(self):
        for place, node in self.each_node(ast.ClassDef):
            self.assertFalse(node.decorator_list or node.keywords or len(node.bases) > 1, place)
            for part in node.body:
                self.assertIsInstance(part, (ast.FunctionDef, ast.Pass), place)
            names = [part.name for part in node.body if isinstance(part, ast.FunctionDef)]
            self.assertEqual(len(names), len(set(names)), place)
        for place, node in self.each_node(ast.FunctionDef):
            if node.name == "__init__":
                self.assertFalse([part for part in ast.walk(node) if isinstance(part, ast.Return)], place)

    def test_l18_l26_methods_and_values(self):
        methods = [name for tree in self.trees.values() for name in class_methods(tree)]
        values = [name for tree in self.trees.values() for name in class_values(tree)]
        self.assertEqual(set(methods) & set(values), set())
        self.assertEqual(set(values) & (PYTHONS_OWN - VALUES_LIKE_PYTHONS), set())
        self.assertEqual(set(methods) & (PYTHONS_OWN - METHODS - {"add", "discard"} - set(TWO_UNDERSCORES)), set())
        for place, node in self.each_node(ast.Attribute):
            if isinstance(node.ctx, ast.Store):
                self.assertIsInstance(node.value, ast.Name, place)

    def test_l6_statements(self):
        for place, node in self.each_node(ast.stmt):
            self.assertIsInstance(node, STATEMENTS, place)
            if isinstance(node, ast.Expr) and not is_docstring(node):
                self.assertIsInstance(node.value, ast.Call, place)
            if isinstance(node, ast.Assign):
                self.assertEqual(len(node.targets), 1, place)
            if isinstance(node, (ast.For, ast.While)):
                self.assertEqual(node.orelse, [], place)
            if isinstance(node, ast.Try):
                self.assertEqual(node.finalbody, [], place)
                self.assertTrue(all(handler.type for handler in node.handlers), place)

    def test_l7_l27_expressions(self):
        for place, node in self.each_node(ast.expr):
            self.assertIsInstance(node, EXPRESSIONS + (ast.Set,), place)
            if isinstance(node, ast.BinOp):
                self.assertNotIsInstance(node.op, (ast.Div, ast.MatMult), place)
            if isinstance(node, ast.Constant):
                self.assertIsInstance(node.value, (int, str, type(None)), place)
                self.assertNotIn("%", str(node.value), place)
            if isinstance(node, ast.ListComp):
                self.assertTrue(len(node.generators) == 1 and len(node.generators[0].ifs) <= 1, place)
            if isinstance(node, ast.FormattedValue):
                self.assertTrue(isinstance(node.value, ast.Name) and node.format_spec is None, place)

    def test_l8_l12_l15_names(self):
        for path, tree in self.trees.items():
            bound = bound_names(tree)
            for word in bound:
                self.assertTrue(re.fullmatch("[A-Za-z][A-Za-z0-9_]*", word) or word in TWO_UNDERSCORES, word)
                self.assertNotIn(word, [name for name in dir(builtins) if word not in TWO_UNDERSCORES], path.name)
            known = set(bound) | set(imported_names(tree)) | OWN_NAMES
            for node in ast.walk(tree):
                if isinstance(node, ast.Name):
                    self.assertIn(node.id, known, f"{path.name}:{node.lineno}")

    def test_l17_l27_names_that_are_not_used(self):
        for place, node in self.each_node((ast.Name, ast.Attribute)):
            self.assertNotIn(node.id if isinstance(node, ast.Name) else node.attr, NAMES_OUT, place)
        for path, text in self.texts.items():
            self.assertNotIn("%", re.sub(r" % (?=[a-z(])", "", text), path.name)
            self.assertIsNone(re.search(r"\\[^nt\\'\"]", text), path.name)

    def test_l22_keywords(self):
        for place, node in self.each_node(ast.Call):
            allowed = KEYWORDS.get(getattr(node.func, "id", ""), ())
            for keyword in node.keywords:
                self.assertIn(keyword.arg, allowed, place)

    def test_l17_words_that_stand_nowhere(self):
        for path, text in self.texts.items():
            self.assertIsNone(WORDS_OUT.search(text), path.name)

    def test_l19_errors(self):
        for place, node in self.each_node(ast.ExceptHandler):
            self.assertNotIn("Exception", ast.dump(node.type), place)
            self.assertNotIn("'TypeError'", ast.dump(node.type), place)
        for place, node in self.each_node(ast.Raise):
            self.assertIsInstance(node.exc, ast.Call, place)

    def test_l20_is(self):
        for place, node in self.each_node(ast.Compare):
            if any(isinstance(sign, (ast.Is, ast.IsNot)) for sign in node.ops):
                self.assertIsInstance(node.comparators[0], ast.Constant, place)

    def test_l23_walked_at_once(self):
        for path, tree in self.trees.items():
            places = places_to_walk(tree)
            for node in ast.walk(tree):
                if is_walked(node):
                    self.assertIn(node, places, f"{path.name}:{node.lineno}")

    def test_l25_l26_methods(self):
        methods = METHODS | {name for tree in self.trees.values() for name in class_methods(tree)}
        values = {name for tree in self.trees.values() for name in class_values(tree)}
        called = [id(node.func) for _, node in self.each_node(ast.Call)]
        for place, node in self.each_node(ast.Attribute):
            self.assertIn(node.attr, methods | values, place)
            if node.attr not in values:
                self.assertIn(id(node), called, place)


if __name__ == "__main__":
    unittest.main()

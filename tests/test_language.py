"""The package's files keep to the part of Python that the program is written in, as far as can be told here."""

import ast
import builtins
import pathlib
import re
import unittest

PACKAGE = pathlib.Path(__file__).resolve().parent.parent / "liftedroots"

STATEMENTS = (
    ast.Module, ast.ImportFrom, ast.alias, ast.FunctionDef, ast.arguments, ast.arg, ast.ClassDef, ast.Assign, ast.If,
    ast.While, ast.For, ast.Return, ast.Break, ast.Continue, ast.Pass, ast.Raise, ast.Expr,
)
EXPRESSIONS = (
    ast.Constant, ast.Name, ast.Load, ast.Store, ast.List, ast.Tuple, ast.Dict, ast.BinOp, ast.UnaryOp, ast.BoolOp,
    ast.Compare, ast.IfExp, ast.Call, ast.keyword, ast.Attribute, ast.Subscript, ast.Slice, ast.ListComp,
    ast.comprehension, ast.boolop, ast.cmpop, ast.unaryop, ast.Add, ast.Sub, ast.Mult, ast.FloorDiv, ast.Mod,
)
OWN_NAMES_OF_PYTHON = set(
    "len range enumerate zip min max sum abs sorted reversed int str bool list tuple dict set frozenset isinstance ord"
    " repr any all divmod Exception ValueError TypeError KeyError IndexError LookupError ZeroDivisionError"
    " ArithmeticError OverflowError RuntimeError NotImplementedError AttributeError StopIteration".split())
METHODS = set(
    "append clear copy count endswith extend find get index insert isalnum isalpha isdigit islower isspace isupper"
    " items join keys ljust lower lstrip partition pop remove replace reverse rfind rjust rpartition rsplit rstrip"
    " setdefault split splitlines startswith strip update upper values zfill bit_length".split())
KEYWORDS = {"sorted": {"key", "reverse"}, "min": {"key", "default"}, "max": {"key", "default"}, "sum": {"start"},
            "enumerate": {"start"}, "zip": {"strict"}}
WALKED_AT_ONCE = {"zip", "enumerate", "reversed", "range"}
WALKERS = {"list", "tuple", "dict", "sorted", "sum", "any", "all", "enumerate", "zip", "min", "max"}
NAMES_THAT_ARE_NOT_USED = set(
    "register mro elements open input version_info with_traceback add_note attrgetter breakpoint builtins compile"
    " copyright credits delattr dir eval exec exit gc getattr globals hasattr help id importlib license locals"
    " methodcaller os quit setattr super type vars sys __name__ format format_map".split())
WORDS_THAT_STAND_NOWHERE = re.compile(
    r"\b(type|typing|typing_extensions|enum|Enum|IntEnum|StrEnum|Flag|IntFlag|Generic|Protocol|ABC|ABCMeta"
    r"|namedtuple|NamedTuple|TypedDict|TYPE_CHECKING|abstractmethod)\b|dataclass|overload|contextmanager")


def sources():
    return {path: path.read_text(encoding="utf-8") for path in sorted(PACKAGE.rglob("*.py"))}


def nodes():
    return [(path.name, node) for path, text in sources().items() for node in ast.walk(ast.parse(text))]


def bound_names(node):
    if isinstance(node, (ast.FunctionDef, ast.ClassDef)):
        return [node.name]
    if isinstance(node, ast.arg):
        return [node.arg]
    if isinstance(node, ast.Name) and isinstance(node.ctx, ast.Store):
        return [node.id]
    return []


def functions_of(tree):
    return [node for node in ast.walk(tree) if isinstance(node, ast.FunctionDef)]


def names_of_top(tree):
    bound = []
    for node in tree.body:
        if isinstance(node, ast.ImportFrom):
            bound.extend(part.asname or part.name for part in node.names)
        elif isinstance(node, ast.Assign):
            bound.append(node.targets[0].id)
        else:
            bound.extend(bound_names(node))
    return bound


def is_plain(node):
    if isinstance(node, (ast.List, ast.Tuple)):
        return all(is_plain(part) for part in node.elts)
    return isinstance(node, (ast.Constant, ast.Name)) or (isinstance(node, ast.UnaryOp) and is_plain(node.operand))


class FilesTest(unittest.TestCase):
    def test_nothing_but_plain_files(self):
        for path in PACKAGE.rglob("*"):
            if "__pycache__" not in path.parts:
                self.assertRegex(path.name, r"^([a-z][a-z0-9_]*|__init__|__main__)\.py$")
        self.assertTrue((PACKAGE / "__init__.py").is_file())

    def test_signs_and_size(self):
        for path, text in sources().items():
            rows = text.split("\n")
            self.assertLessEqual(len(rows), 400, path.name)
            for row in rows:
                self.assertRegex(row, r"^[ -~]{0,120}$", path.name)

    def test_words_that_stand_nowhere(self):
        for path, text in sources().items():
            self.assertIsNone(WORDS_THAT_STAND_NOWHERE.search(text), path.name)


class FormTest(unittest.TestCase):
    def test_statements_and_expressions(self):
        for name, node in nodes():
            self.assertIsInstance(node, STATEMENTS + EXPRESSIONS, (name, getattr(node, "lineno", None)))

    def test_whole_numbers_and_texts_alone(self):
        for name, node in nodes():
            if isinstance(node, ast.Constant):
                self.assertIn(node.value.__class__, (int, str, bool, None.__class__), name)

    def test_functions(self):
        for name, node in nodes():
            if isinstance(node, ast.FunctionDef):
                self.assertLessEqual(node.end_lineno - node.lineno + 1, 40, (name, node.name))
                self.assertEqual(node.decorator_list, [], (name, node.name))
                given = node.args
                self.assertFalse(given.vararg or given.kwarg or given.kwonlyargs or given.posonlyargs, node.name)

    def test_loops_and_assignments(self):
        for name, node in nodes():
            if isinstance(node, (ast.For, ast.While)):
                self.assertEqual(node.orelse, [], (name, node.lineno))
            if isinstance(node, ast.Assign):
                self.assertEqual(len(node.targets), 1, (name, node.lineno))
            if isinstance(node, ast.ListComp):
                self.assertEqual(len(node.generators), 1, (name, node.lineno))
                self.assertLessEqual(len(node.generators[0].ifs), 1, (name, node.lineno))

    def test_imports_of_the_package_alone(self):
        for name, node in nodes():
            if isinstance(node, ast.ImportFrom):
                self.assertEqual(node.level, 0, name)
                self.assertRegex(node.module, r"^liftedroots\.[a-z_]+$", name)
                defined = {part for path, text in sources().items() if path.stem == node.module.split(".")[1]
                           for inner in ast.parse(text).body for part in bound_names(inner)}
                for part in node.names:
                    self.assertIn(part.name, defined, name)


    def test_the_top_of_a_module(self):
        for path, text in sources().items():
            for place, node in enumerate(ast.parse(text).body):
                self.assertIsInstance(node, (ast.Expr, ast.ImportFrom, ast.FunctionDef, ast.ClassDef, ast.Assign))
                if isinstance(node, ast.Expr):
                    self.assertEqual(place, 0, path.name)
                if isinstance(node, ast.Assign):
                    self.assertTrue(is_plain(node.value), (path.name, node.lineno))

    def test_no_two_files_draw_from_one_another(self):
        drawn = {path.stem: {node.module.split(".")[1] for node in ast.walk(ast.parse(text))
                             if isinstance(node, ast.ImportFrom)} for path, text in sources().items()}
        while drawn:
            free = [name for name, others in drawn.items() if not others & set(drawn)]
            self.assertNotEqual(free, [], drawn)
            drawn = {name: others for name, others in drawn.items() if name not in free}

    def test_is_stands_beside_none_true_and_false(self):
        for name, node in nodes():
            if isinstance(node, ast.Compare):
                for sign, right in zip(node.ops, node.comparators):
                    if isinstance(sign, (ast.Is, ast.IsNot)):
                        self.assertIn(getattr(right, "value", 0), (None, True, False), (name, node.lineno))

    def test_walked_at_once(self):
        for path, text in sources().items():
            tree = ast.parse(text)
            walked = [node.iter for node in ast.walk(tree) if isinstance(node, (ast.For, ast.comprehension))]
            walked.extend(node.args[0] for node in ast.walk(tree) if isinstance(node, ast.Call) and node.args
                          and getattr(node.func, "id", None) in WALKERS)
            for node in ast.walk(tree):
                if isinstance(node, ast.Call) and getattr(node.func, "id", None) in WALKED_AT_ONCE:
                    self.assertIn(node, walked, (path.name, node.lineno))

    def test_no_annotations(self):
        for name, node in nodes():
            if isinstance(node, ast.FunctionDef):
                self.assertIsNone(node.returns, (name, node.name))
            if isinstance(node, ast.arg):
                self.assertIsNone(node.annotation, (name, node.arg))


class NamesTest(unittest.TestCase):
    def test_each_name_once(self):
        for path, text in sources().items():
            bound = names_of_top(ast.parse(text))
            self.assertEqual(sorted(bound), sorted(set(bound)), path.name)

    def test_no_local_is_called_like_a_name_of_the_top(self):
        for path, text in sources().items():
            tree = ast.parse(text)
            for function in functions_of(tree):
                inner = {bound for node in ast.walk(function) if node is not function for bound in bound_names(node)}
                self.assertEqual(inner & set(names_of_top(tree)), set(), (path.name, function.name))

    def test_names_that_are_not_used(self):
        for name, node in nodes():
            for used in (getattr(node, "id", None), getattr(node, "attr", None), *bound_names(node)):
                self.assertNotIn(used, NAMES_THAT_ARE_NOT_USED, name)

    def test_methods_and_values(self):
        methods = [inner.name for name, node in nodes() if isinstance(node, ast.ClassDef) for inner in node.body
                   if isinstance(inner, ast.FunctionDef)]
        values = {node.attr for name, node in nodes() if isinstance(node, ast.Attribute)
                  and isinstance(node.ctx, ast.Store)}
        self.assertEqual(values & set(methods), set())
        pythons = {part for kind in (str, int, list, dict, set, bytes, tuple) for part in dir(kind)}
        self.assertEqual((values | set(methods)) & pythons - {"__init__"}, set())

    def test_bound_names(self):
        for name, node in nodes():
            for bound in bound_names(node):
                if bound != "__init__":
                    self.assertRegex(bound, r"^[A-Za-z][A-Za-z0-9_]*$", name)
                    self.assertFalse(hasattr(builtins, bound), (name, bound))

    def test_names_of_pythons_own(self):
        for name, node in nodes():
            if isinstance(node, ast.Name) and hasattr(builtins, node.id):
                self.assertIn(node.id, OWN_NAMES_OF_PYTHON, (name, node.lineno))

    def test_methods(self):
        own = {bound for name, node in nodes() for bound in bound_names(node) if isinstance(node, ast.FunctionDef)}
        for name, node in nodes():
            if isinstance(node, ast.Call) and isinstance(node.func, ast.Attribute):
                self.assertIn(node.func.attr, METHODS | own, (name, node.lineno))

    def test_keywords(self):
        for name, node in nodes():
            if isinstance(node, ast.Call) and node.keywords:
                self.assertIsInstance(node.func, ast.Name, (name, node.lineno))
                for keyword in node.keywords:
                    self.assertIn(keyword.arg, KEYWORDS.get(node.func.id, ()), (name, node.lineno))


if __name__ == "__main__":
    unittest.main()

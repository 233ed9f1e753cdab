"""The package keeps to the small part of Python it is written in, and imports nothing."""

import ast
import builtins
import pathlib
import re
import unittest

PACKAGE = pathlib.Path(__file__).resolve().parent.parent / "envelopewords"

OWN_NAMES = set(
    "len range enumerate zip min max sum abs sorted reversed int str bool list tuple dict set frozenset"
    " isinstance ord repr any all divmod Exception ValueError TypeError KeyError IndexError LookupError"
    " ZeroDivisionError ArithmeticError OverflowError RuntimeError NotImplementedError AttributeError"
    " StopIteration".split())

OWN_METHODS = set(
    "append clear copy count endswith extend find get index insert isalnum isalpha isdigit islower isspace"
    " isupper items join keys ljust lower lstrip partition pop remove replace reverse rfind rjust rpartition"
    " rsplit rstrip setdefault split splitlines startswith strip update upper values zfill bit_length".split())

WORDS_NOT_USED = set(
    "type typing typing_extensions enum Enum IntEnum StrEnum Flag IntFlag Generic Protocol ABC ABCMeta"
    " namedtuple NamedTuple TypedDict TYPE_CHECKING abstractmethod".split())

PARTS_NOT_USED = ("dataclass", "overload", "contextmanager")

FORMS_NOT_USED = (
    ast.Import, ast.ImportFrom, ast.With, ast.Match, ast.Delete, ast.Global, ast.Nonlocal, ast.Assert,
    ast.Yield, ast.YieldFrom, ast.AsyncFunctionDef, ast.AsyncFor, ast.AsyncWith, ast.Await, ast.SetComp,
    ast.DictComp, ast.GeneratorExp, ast.NamedExpr, ast.Starred, ast.Div, ast.AnnAssign,
)

STATEMENTS = (
    ast.FunctionDef, ast.ClassDef, ast.Assign, ast.AugAssign, ast.If, ast.While, ast.For, ast.Return, ast.Break,
    ast.Continue, ast.Pass, ast.Raise, ast.Try, ast.Expr,
)

EXPRESSIONS = (
    ast.Constant, ast.Name, ast.List, ast.Tuple, ast.Dict, ast.BinOp, ast.UnaryOp, ast.BoolOp, ast.Compare, ast.IfExp,
    ast.Call, ast.Attribute, ast.Subscript, ast.Slice, ast.ListComp, ast.JoinedStr, ast.FormattedValue, ast.Lambda,
)

AS_A_KEY = ("len", "int", "str", "abs", "sum", "min", "max", "tuple")

NAMES_NOT_USED = set(
    "register mro elements open input version_info with_traceback add_note attrgetter breakpoint builtins compile"
    " copyright credits delattr dir eval exec exit gc getattr globals hasattr help id importlib license locals"
    " methodcaller os quit setattr super type vars sys __name__ format format_map".split())

AT_THE_TOP = (ast.FunctionDef, ast.ClassDef, ast.Assign)

KEYWORDS = {"sorted": {"key", "reverse"}, "min": {"key", "default"}, "max": {"key", "default"}, "sum": {"start"},
            "enumerate": {"start"}, "zip": {"strict"}}

WALKED_AT_ONCE = ("range", "enumerate", "zip", "reversed")

WALK_IN_A_CALL = ("list", "tuple", "dict", "sorted", "sum", "any", "all", "enumerate", "zip", "min", "max")

PYTHONS_OWN = {name for kind in (str, int, list, tuple, dict, set, frozenset, bytes) for name in dir(kind)}

OWN_VALUES = set("count index title find get join lower upper split strip copy add".split())

FILES_NOT_CALLED = set("test tests testing site conftest sitecustomize usercustomize".split())

CHANGING = ("append", "clear", "extend", "insert", "pop", "remove", "reverse", "setdefault", "update")


def each_file():
    """Of each file of the package: what is written in it, and the same as a tree."""
    written = [path.read_text(encoding="utf-8") for path in sorted(PACKAGE.rglob("*.py"))]
    return [(source, ast.parse(source)) for source in written]


def bound_names(tree):
    """Every name that the file binds."""
    names = []
    for node in ast.walk(tree):
        if isinstance(node, (ast.FunctionDef, ast.ClassDef)):
            names.append(node.name)
        elif isinstance(node, ast.arg):
            names.append(node.arg)
        elif isinstance(node, ast.Name) and isinstance(node.ctx, ast.Store):
            names.append(node.id)
        elif isinstance(node, ast.Attribute) and isinstance(node.ctx, ast.Store):
            names.append(node.attr)
    return [name for name in names if name != "__init__"]


def called(node):
    """The plain name that is called there, or an empty text."""
    plain = isinstance(node, ast.Call) and isinstance(node.func, ast.Name)
    return node.func.id if plain else ""


def walked_on_the_spot(tree):
    """Every expression that stands where a walk may."""
    spots = []
    for node in ast.walk(tree):
        if isinstance(node, (ast.For, ast.comprehension)):
            spots.append(node.iter)
        elif called(node) in WALK_IN_A_CALL:
            spots += node.args[:1]
    return spots


def names_walked(loop):
    """The names whose values the loop walks, itself or through enumerate, zip, reversed."""
    walked = loop.iter.args if called(loop.iter) in WALKED_AT_ONCE else [loop.iter]
    return {node.id for node in walked if isinstance(node, ast.Name)}


def names_changed(loop):
    """The names whose values are changed within the loop."""
    names = set()
    for node in ast.walk(loop):
        if isinstance(node, ast.Call) and isinstance(node.func, ast.Attribute) and node.func.attr in CHANGING:
            names.add(getattr(node.func.value, "id", ""))
        elif isinstance(node, ast.Subscript) and isinstance(node.ctx, ast.Store):
            names.add(getattr(node.value, "id", ""))
        elif isinstance(node, ast.AugAssign):
            names.add(getattr(node.target, "id", ""))
    return names - {""}


def own_calls(tree):
    """Of each function of the file's top: the functions of the file's top that it calls."""
    functions = {node.name: node for node in tree.body if isinstance(node, ast.FunctionDef)}
    return {name: {called(inner) for inner in ast.walk(node)} & set(functions) for name, node in functions.items()}


def names_at_the_top(tree):
    """The names of the file's top that are given a value."""
    return {node.targets[0].id for node in tree.body if isinstance(node, ast.Assign)}


def tables_at_the_top(tree):
    """The names of the file's top that are lists, tuples or dicts."""
    held = [node for node in tree.body if isinstance(node, ast.Assign)]
    return {node.targets[0].id for node in held if isinstance(node.value, (ast.List, ast.Tuple, ast.Dict))}


def only_read(tree):
    """Every expression that is walked, asked with "in", indexed or measured: so it is only read."""
    spots = walked_on_the_spot(tree)
    for node in ast.walk(tree):
        if isinstance(node, ast.Compare):
            spots += node.comparators
        elif isinstance(node, ast.Subscript):
            spots.append(node.value)
        elif called(node) == "len":
            spots += node.args
    return spots


class TestForm(unittest.TestCase):

    def test_package_holds_python_files_alone(self):
        names = [path.name for path in PACKAGE.iterdir() if path.name != "__pycache__"]
        self.assertIn("__init__.py", names)
        self.assertIn("desk.py", names)
        for name in names:
            self.assertRegex(name, r"^[a-z0-9_]+\.py$")
            plain = name.removesuffix(".py")
            self.assertFalse(plain in FILES_NOT_CALLED or plain.startswith("test_") or plain in vars(builtins), name)

    def test_sizes_and_signs(self):
        for source, tree in each_file():
            lines = source.split("\n")
            self.assertLessEqual(len(lines), 401)
            self.assertLessEqual(max(len(line) for line in lines), 120)
            self.assertRegex(source, r"^[ -~\n]*$")
            for node in ast.walk(tree):
                if isinstance(node, ast.FunctionDef):
                    self.assertLessEqual(node.end_lineno - node.lineno + 1, 40, node.name)

    def test_forms(self):
        for source, tree in each_file():
            for node in ast.walk(tree):
                self.assertNotIsInstance(node, FORMS_NOT_USED)
                if isinstance(node, ast.Assign):
                    self.assertEqual(len(node.targets), 1)
                if isinstance(node, (ast.For, ast.While)):
                    self.assertEqual(node.orelse, [])
                if isinstance(node, (ast.FunctionDef, ast.ClassDef)):
                    self.assertEqual(node.decorator_list, [])
                if isinstance(node, ast.Constant):
                    self.assertIn(type(node.value), (int, str, bool, type(None)))

    def test_top_of_a_file(self):
        for source, tree in each_file():
            self.assertIsNotNone(ast.get_docstring(tree))
            for node in tree.body[1:]:
                self.assertIsInstance(node, AT_THE_TOP)
                if isinstance(node, ast.Assign):
                    ast.literal_eval(node.value)
            once = [node.targets[0].id if isinstance(node, ast.Assign) else node.name for node in tree.body[1:]]
            self.assertEqual(len(once), len(set(once)))

    def test_names(self):
        for source, tree in each_file():
            for name in bound_names(tree):
                self.assertRegex(name, r"^[A-Za-z][A-Za-z0-9_]*$")
                self.assertFalse(hasattr(builtins, name), name)
            for node in ast.walk(tree):
                if isinstance(node, ast.Name) and hasattr(builtins, node.id):
                    self.assertIn(node.id, OWN_NAMES)

    def test_methods(self):
        for source, tree in each_file():
            own = {node.name for node in ast.walk(tree) if isinstance(node, ast.FunctionDef)}
            for node in ast.walk(tree):
                if isinstance(node, ast.Call) and isinstance(node.func, ast.Attribute):
                    self.assertIn(node.func.attr, OWN_METHODS | own)

    def test_words_that_are_not_used(self):
        for source, tree in each_file():
            self.assertEqual(set(re.findall(r"\w+", source)) & WORDS_NOT_USED, set())
            for part in PARTS_NOT_USED:
                self.assertNotIn(part, source)

    def test_parameters(self):
        for source, tree in each_file():
            for node in ast.walk(tree):
                if isinstance(node, ast.arguments):
                    self.assertIsNone(node.vararg)
                    self.assertIsNone(node.kwarg)
                    self.assertEqual(node.kwonlyargs + node.posonlyargs, [])

    def test_keywords(self):
        for source, tree in each_file():
            for node in ast.walk(tree):
                if isinstance(node, ast.Call) and (called(node) in OWN_NAMES or isinstance(node.func, ast.Attribute)):
                    given = {keyword.arg for keyword in node.keywords}
                    self.assertLessEqual(given, KEYWORDS.get(called(node), set()))

    def test_walked_at_once(self):
        for source, tree in each_file():
            spots = walked_on_the_spot(tree)
            for node in ast.walk(tree):
                if called(node) in WALKED_AT_ONCE:
                    self.assertIn(node, spots, f"line {node.lineno}")

    def test_what_is_walked_is_not_changed(self):
        for source, tree in each_file():
            for node in ast.walk(tree):
                if isinstance(node, ast.For):
                    self.assertEqual(names_walked(node) & names_changed(node), set(), f"line {node.lineno}")

    def test_sets_stand_within_sorted_or_len(self):
        for source, tree in each_file():
            within = [node.args[0] for node in ast.walk(tree) if called(node) in ("sorted", "len")]
            for node in ast.walk(tree):
                self.assertNotIsInstance(node, ast.Set)
                if called(node) in ("set", "frozenset"):
                    self.assertIn(node, within, f"line {node.lineno}")

    def test_statements_and_expressions(self):
        for source, tree in each_file():
            for node in ast.walk(tree):
                if isinstance(node, ast.stmt):
                    self.assertIsInstance(node, STATEMENTS, f"line {node.lineno}")
                if isinstance(node, ast.expr):
                    self.assertIsInstance(node, EXPRESSIONS, f"line {node.lineno}")
                if isinstance(node, ast.Expr):
                    self.assertIsInstance(node.value, (ast.Call, ast.Constant), f"line {node.lineno}")
                if isinstance(node, ast.ListComp):
                    self.assertEqual(len(node.generators), 1, f"line {node.lineno}")
                    self.assertLessEqual(len(node.generators[0].ifs), 1, f"line {node.lineno}")

    def test_is_stands_beside_none_true_and_false(self):
        for source, tree in each_file():
            for node in ast.walk(tree):
                if isinstance(node, ast.Compare) and any(isinstance(op, (ast.Is, ast.IsNot)) for op in node.ops):
                    self.assertIsInstance(getattr(node.comparators[-1], "value", 0.5), (bool, type(None)))

    def test_classes(self):
        for source, tree in each_file():
            classes = [node for node in ast.walk(tree) if isinstance(node, ast.ClassDef)]
            names = {node.name for node in classes}
            for node in classes:
                self.assertIn(node, tree.body)
                self.assertLessEqual(len(node.bases), 1)
                for part in node.body[1:]:
                    self.assertIsInstance(part, ast.FunctionDef)
            self.assertEqual([name for name in bound_names(tree) if name in names], [node.name for node in classes])

    def test_names_that_are_not_used(self):
        for source, tree in each_file():
            used = {getattr(node, "id", getattr(node, "attr", "")) for node in ast.walk(tree)}
            self.assertEqual((used | set(bound_names(tree))) & NAMES_NOT_USED, set())

    def test_own_names_and_methods_are_called_where_they_stand(self):
        for source, tree in each_file():
            calls = [node.func for node in ast.walk(tree) if isinstance(node, ast.Call)]
            keys = [node.value for node in ast.walk(tree) if isinstance(node, ast.keyword) and node.arg == "key"]
            for node in ast.walk(tree):
                if isinstance(node, ast.Name) and node.id in OWN_NAMES and hasattr(builtins, node.id):
                    self.assertTrue(node in calls or node in keys and node.id in AS_A_KEY, f"line {node.lineno}")
                if isinstance(node, ast.Attribute) and node.attr in OWN_METHODS:
                    self.assertIn(node, calls, f"line {node.lineno}")

    def test_numbers_and_texts(self):
        for source, tree in each_file():
            self.assertNotRegex(source, r"\\[^nt\\\"']")
            for node in ast.walk(tree):
                if isinstance(node, ast.Constant) and isinstance(node.value, str):
                    self.assertNotIn("%", node.value)
                if isinstance(node, ast.BinOp) and isinstance(node.op, ast.Pow):
                    self.assertIn(getattr(node.right, "value", None), range(65), f"line {node.lineno}")

    def test_tables_at_the_top_are_only_read(self):
        for source, tree in each_file():
            tables = tables_at_the_top(tree)
            read = only_read(tree)
            for node in ast.walk(tree):
                if isinstance(node, ast.Name) and node.id in tables and isinstance(node.ctx, ast.Load):
                    self.assertIn(node, read, f"line {node.lineno}")

    def test_functions_do_not_call_one_another_in_a_ring(self):
        for source, tree in each_file():
            calls = own_calls(tree)
            # One after another those that call none of the others left are taken away: in a ring none is such.
            while calls:
                ends = [name for name in calls if not calls[name] & set(calls)]
                self.assertNotEqual(ends, [], calls)
                calls = {name: calls[name] for name in calls if name not in ends}

    def test_no_annotations(self):
        for source, tree in each_file():
            for node in ast.walk(tree):
                self.assertIsNone(getattr(node, "annotation", None))
                self.assertIsNone(getattr(node, "returns", None))

    def test_classes_are_called_alone(self):
        for source, tree in each_file():
            names = {node.name for node in tree.body if isinstance(node, ast.ClassDef)}
            calls = [node.func for node in ast.walk(tree) if isinstance(node, ast.Call)]
            for node in ast.walk(tree):
                if isinstance(node, ast.Name) and node.id in names:
                    self.assertIn(node, calls, f"line {node.lineno}")

    def test_own_methods_and_values(self):
        for source, tree in each_file():
            methods = {part.name for node in tree.body if isinstance(node, ast.ClassDef)
                       for part in node.body if isinstance(part, ast.FunctionDef)}
            given = [node for node in ast.walk(tree) if isinstance(node, ast.Attribute)
                     and isinstance(node.ctx, ast.Store)]
            values = {node.attr for node in given}
            self.assertEqual((methods - {"__init__"}) & (PYTHONS_OWN - OWN_METHODS - {"add", "discard"}), set())
            self.assertEqual(values & (PYTHONS_OWN - OWN_VALUES | {"args"}), set())
            self.assertEqual(values & methods, set())
            for node in given:
                self.assertEqual(getattr(node.value, "id", ""), "self", f"line {node.lineno}")

    def test_no_errors_are_raised_or_taken(self):
        # No refusal is an error here: each is an answer.
        for source, tree in each_file():
            for node in ast.walk(tree):
                self.assertNotIsInstance(node, (ast.Raise, ast.Try))

    def test_f_strings_are_plain(self):
        for source, tree in each_file():
            for node in ast.walk(tree):
                if isinstance(node, ast.FormattedValue):
                    self.assertIsInstance(node.value, ast.Name)
                    self.assertIn(node.conversion, (-1, ord("r")))
                    self.assertIsNone(node.format_spec)

    def test_nothing_at_the_top_is_changed(self):
        for source, tree in each_file():
            self.assertEqual(names_at_the_top(tree) & names_changed(tree), set())


if __name__ == "__main__":
    unittest.main()

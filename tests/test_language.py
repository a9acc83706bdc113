"""Those of the language's rules that can be seen in the package's files one by one."""

import ast
import builtins
import pathlib
import re
import unittest

PACKAGE = pathlib.Path(__file__).resolve().parent.parent / "figurefall"
FILES = sorted(PACKAGE.rglob("*.py"))

PYTHONS_OWN = set(
    "len range enumerate zip min max sum abs sorted reversed int str bool list tuple dict set frozenset isinstance "
    "ord repr any all divmod Exception ValueError TypeError KeyError IndexError LookupError ZeroDivisionError "
    "ArithmeticError OverflowError RuntimeError NotImplementedError AttributeError StopIteration".split()
)
METHODS = set(
    "append clear copy count endswith extend find get index insert isalnum isalpha isdigit islower isspace isupper "
    "items join keys ljust lower lstrip partition pop remove replace reverse rfind rjust rpartition rsplit rstrip "
    "setdefault split splitlines startswith strip update upper values zfill bit_length".split()
)
WORDS = (
    "type typing typing_extensions enum Enum IntEnum StrEnum Flag IntFlag Generic Protocol ABC ABCMeta namedtuple "
    "NamedTuple TypedDict TYPE_CHECKING abstractmethod"
).split()
LEFT_OUT = (
    ast.With, ast.Match, ast.Delete, ast.Global, ast.Nonlocal, ast.Assert, ast.Yield, ast.YieldFrom, ast.Await,
    ast.AsyncFunctionDef, ast.AsyncFor, ast.AsyncWith, ast.Import, ast.SetComp, ast.DictComp, ast.GeneratorExp,
    ast.NamedExpr, ast.Starred, ast.Div, ast.MatMult,
)


def walked():
    for path in FILES:
        for node in ast.walk(ast.parse(path.read_text(encoding="utf-8"))):
            yield path.name, node


def bound_names(tree):
    for node in ast.walk(tree):
        if isinstance(node, ast.Name) and isinstance(node.ctx, ast.Store):
            yield node.id
        elif isinstance(node, ast.arg):
            yield node.arg
        elif isinstance(node, (ast.FunctionDef, ast.ClassDef)):
            yield node.name


class Language(unittest.TestCase):
    def test_files(self):
        self.assertTrue(FILES)
        for path in PACKAGE.rglob("*"):
            if "__pycache__" not in path.parts:
                self.assertRegex(path.name, r"^([a-z][a-z0-9_]*|__init__|__main__)(\.py)?$")

    def test_signs_and_sizes(self):
        for path in FILES:
            text = path.read_text(encoding="utf-8")
            with self.subTest(file=path.name):
                self.assertRegex(text, r"\A[ -~\n]*\Z")
                self.assertLessEqual(len(text.splitlines()), 400)
                self.assertLessEqual(max(len(line) for line in text.splitlines()), 120)
                self.assertEqual([word for word in WORDS if re.search(rf"\b{word}\b", text)], [])
                self.assertIsNone(re.search("dataclass|overload|contextmanager", text))

    def test_functions_are_small_and_plain(self):
        for name, node in walked():
            if isinstance(node, ast.FunctionDef):
                with self.subTest(file=name, function=node.name):
                    self.assertLessEqual(node.end_lineno - node.lineno + 1, 40)
                    self.assertEqual(node.decorator_list, [])
                    self.assertEqual((node.args.vararg, node.args.kwarg, node.args.kwonlyargs), (None, None, []))

    def test_what_is_left_out(self):
        for name, node in walked():
            with self.subTest(file=name, line=getattr(node, "lineno", 0)):
                self.assertNotIsInstance(node, LEFT_OUT)
                if isinstance(node, ast.Constant):
                    self.assertNotIsInstance(node.value, (float, complex, bytes))
                if isinstance(node, ast.Constant) and isinstance(node.value, str):
                    self.assertNotIn("%", node.value)
                if isinstance(node, (ast.For, ast.While)):
                    self.assertEqual(node.orelse, [])
                if isinstance(node, ast.Assign):
                    self.assertEqual(len(node.targets), 1)
                if isinstance(node, ast.BinOp) and isinstance(node.op, ast.Pow):
                    self.assertIsInstance(node.right, ast.Constant)

    def test_imports_come_from_the_file_that_defines_the_name(self):
        for name, node in walked():
            if isinstance(node, ast.ImportFrom):
                with self.subTest(file=name, drawn_from=node.module):
                    self.assertEqual((node.level, node.module.split(".")[0]), (0, "figurefall"))
                    source = PACKAGE.parent.joinpath(*node.module.split(".")).with_suffix(".py")
                    defined = set(bound_names(ast.parse(source.read_text(encoding="utf-8"))))
                    for drawn in node.names:
                        self.assertIn(drawn.name, defined)
                        self.assertIsNone(drawn.asname)

    def test_names(self):
        for path in FILES:
            tree = ast.parse(path.read_text(encoding="utf-8"))
            bound = set(bound_names(tree))
            with self.subTest(file=path.name):
                self.assertEqual([name for name in bound if name.startswith("_") and name != "__init__"], [])
                self.assertEqual([name for name in bound if name in dir(builtins) and name != "__init__"], [])
                used = {node.id for node in ast.walk(tree) if isinstance(node, ast.Name)}
                self.assertEqual({name for name in used if name in dir(builtins)} - PYTHONS_OWN, set())

    def test_no_local_is_called_like_a_class_or_an_import(self):
        for path in FILES:
            tree = ast.parse(path.read_text(encoding="utf-8"))
            drawn = {one.name for node in tree.body if isinstance(node, ast.ImportFrom) for one in node.names}
            drawn |= {node.name for node in tree.body if isinstance(node, ast.ClassDef)}
            names = [node for node in ast.walk(tree) if isinstance(node, ast.Name)]
            stored = {node.id for node in names if isinstance(node.ctx, ast.Store)}
            stored |= {node.arg for node in ast.walk(tree) if isinstance(node, ast.arg)}
            with self.subTest(file=path.name):
                self.assertEqual(drawn & stored, set())

    def test_no_two_files_draw_from_one_another(self):
        drawn = {}
        for path in FILES:
            nodes = ast.parse(path.read_text(encoding="utf-8")).body
            drawn[path.stem] = {node.module.split(".")[1] for node in nodes if isinstance(node, ast.ImportFrom)}
        while drawn:
            free = [name for name, others in drawn.items() if not others & set(drawn)]
            self.assertTrue(free, drawn)
            for name in free:
                del drawn[name]

    def test_no_name_is_both_a_method_and_a_value(self):
        methods = set()
        values = set()
        for name, node in walked():
            if isinstance(node, ast.ClassDef):
                methods |= {part.name for part in node.body if isinstance(part, ast.FunctionDef)}
            if isinstance(node, ast.Attribute) and isinstance(node.ctx, ast.Store):
                values.add(node.attr)
        self.assertEqual(methods & values, set())
        own = {name for kind in (str, int, list, dict, set, tuple, bytes) for name in dir(kind)}
        self.assertEqual((methods | values) & own - {"__init__"}, set())

    def test_what_is_walked_on_the_spot(self):
        for path in FILES:
            tree = ast.parse(path.read_text(encoding="utf-8"))
            walked_here = {id(node.iter) for node in ast.walk(tree) if isinstance(node, (ast.For, ast.comprehension))}
            calls = [node for node in ast.walk(tree) if isinstance(node, ast.Call)]
            for node in calls:
                if getattr(node.func, "id", None) in ("list", "sorted"):
                    walked_here.update(id(part) for part in node.args[:1])
            for node in calls:
                called = getattr(node.func, "id", getattr(node.func, "attr", None))
                if called in ("range", "zip", "enumerate", "reversed", "items", "keys", "values"):
                    with self.subTest(file=path.name, line=node.lineno):
                        self.assertIn(id(node), walked_here)

    def test_methods(self):
        own = {node.name for name, node in walked() if isinstance(node, ast.FunctionDef)}
        for name, node in walked():
            if isinstance(node, ast.Call) and isinstance(node.func, ast.Attribute):
                with self.subTest(file=name, line=node.lineno):
                    self.assertIn(node.func.attr, METHODS | own)


if __name__ == "__main__":
    unittest.main()

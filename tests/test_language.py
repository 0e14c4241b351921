"""The package keeps to its part of Python, as far as a walk over its rows can see."""

import ast
import builtins
import re
import unittest
import warnings
from pathlib import Path

PACKAGE = Path(__file__).resolve().parent.parent / "restdraw"
FILES = sorted(PACKAGE.glob("*.py"))

NAMES = set(
    """len range enumerate zip min max sum abs sorted reversed int str bool bytes list tuple dict set frozenset
    isinstance ord repr any all divmod Exception ValueError TypeError KeyError IndexError LookupError
    ZeroDivisionError ArithmeticError OverflowError RuntimeError NotImplementedError AttributeError
    StopIteration""".split()
)
METHODS = set(
    """append clear copy count endswith extend find get index insert isalnum isalpha isdigit islower isspace
    isupper items join keys ljust lower lstrip partition pop remove replace reverse rfind rjust rpartition
    rsplit rstrip setdefault split splitlines startswith strip update upper values zfill bit_length add discard
    sort""".split()
)
WORDS = set(
    """type typing typing_extensions enum Enum IntEnum StrEnum Flag IntFlag Generic Protocol ABC ABCMeta
    namedtuple NamedTuple TypedDict TYPE_CHECKING abstractmethod""".split()
)
PARTS = ("dataclass", "overload", "contextmanager")
UNUSED = set(
    """register mro elements open input version_info with_traceback add_note attrgetter breakpoint builtins
    compile copyright credits delattr dir eval exec exit gc getattr globals hasattr help id importlib license
    locals methodcaller os quit setattr super type vars sys __name__""".split()
)
OUT = (
    ast.With, ast.Match, ast.Global, ast.Nonlocal, ast.Yield, ast.YieldFrom, ast.AsyncFunctionDef, ast.AsyncFor,
    ast.AsyncWith, ast.Await, ast.GeneratorExp, ast.NamedExpr, ast.Div, ast.MatMult, ast.Import,
)


def reading(path):
    with warnings.catch_warnings():
        warnings.simplefilter("error")
        tree = ast.parse(path.read_text("utf-8"))
        compile(tree, str(path), "exec")
    return tree


def given_names(tree):
    """Each name that a file gives, with its row."""
    for node in ast.walk(tree):
        if isinstance(node, ast.Name) and not isinstance(node.ctx, ast.Load):
            yield node.id, node.lineno
        elif isinstance(node, ast.arg):
            yield node.arg, node.lineno
        elif isinstance(node, (ast.FunctionDef, ast.ClassDef)):
            yield node.name, node.lineno
        elif isinstance(node, ast.ExceptHandler) and node.name:
            yield node.name, node.lineno


class TestLanguage(unittest.TestCase):
    def each(self, *kinds):
        for path in FILES:
            for node in ast.walk(reading(path)):
                if isinstance(node, kinds):
                    yield node, f"{path.name}:{node.lineno}"

    def test_files(self):
        self.assertIn(PACKAGE / "__init__.py", FILES)
        for path in PACKAGE.iterdir():
            if path.name != "__pycache__":
                self.assertRegex(path.name, r"^[a-z0-9_]+\.py$")

    def test_signs_and_sizes(self):
        for path in FILES:
            text = path.read_text("utf-8")
            self.assertRegex(text, r"\A[ -~\n]*\Z", path.name)
            rows = text.split("\n")
            self.assertLessEqual(len(rows), 400, path.name)
            self.assertLessEqual(max(len(row) for row in rows), 120, path.name)
            for word in re.findall(r"\w+", text):
                self.assertNotIn(word, WORDS, path.name)
                self.assertFalse([part for part in PARTS if part in word], path.name)
        for node, where in self.each(ast.FunctionDef):
            self.assertLessEqual(node.end_lineno - node.lineno + 1, 40, where)

    def test_imports(self):
        for node, where in self.each(ast.ImportFrom):
            self.assertEqual(node.level, 0, where)
            self.assertRegex(node.module, r"^restdraw\.[a-z]+$", where)
            source = ast.parse((PACKAGE / (node.module.split(".")[1] + ".py")).read_text("utf-8"))
            defined = {name for name, row in given_names(source)}
            for drawn in node.names:
                self.assertIn(drawn.name, defined, where)

    def test_no_round_of_imports(self):
        draws = {}
        for path in FILES:
            rows = [node for node in ast.walk(reading(path)) if isinstance(node, ast.ImportFrom)]
            draws[path.stem] = {node.module.split(".")[1] for node in rows}
        while draws:
            free = [name for name, others in draws.items() if not others & set(draws)]
            self.assertTrue(free, draws)
            for name in free:
                del draws[name]

    def test_top(self):
        for path in FILES:
            seen = []
            for at, node in enumerate(reading(path).body):
                if isinstance(node, ast.Expr):
                    self.assertEqual(at, 0, path.name)
                    self.assertIsInstance(node.value, ast.Constant)
                    continue
                self.assertIsInstance(node, (ast.ImportFrom, ast.FunctionDef, ast.ClassDef, ast.Assign))
                if isinstance(node, ast.ImportFrom):
                    seen += [one.asname or one.name for one in node.names]
                elif isinstance(node, ast.Assign):
                    seen += [one.id for one in node.targets]
                else:
                    seen.append(node.name)
            self.assertEqual(len(seen), len(set(seen)), path.name)

    def test_forms_that_are_out(self):
        for node, where in self.each(*OUT):
            self.fail(where)
        for node, where in self.each(ast.FunctionDef, ast.ClassDef):
            self.assertEqual(node.decorator_list, [], where)
        for node, where in self.each(ast.For, ast.While):
            self.assertEqual(node.orelse, [], where)
        for node, where in self.each(ast.Compare):
            for sign, other in zip(node.ops, node.comparators):
                if isinstance(sign, (ast.Is, ast.IsNot)):
                    self.assertIsInstance(other, ast.Constant, where)
        for node, where in self.each(ast.BinOp):
            if isinstance(node.op, ast.Pow):
                self.assertIsInstance(node.right, ast.Constant, where)
                self.assertIn(node.right.value, range(65), where)
        for node, where in self.each(ast.Constant):
            self.assertNotIsInstance(node.value, (float, complex), where)
            if isinstance(node.value, str):
                self.assertNotIn("%", node.value, where)

    def test_parameters(self):
        for node, where in self.each(ast.FunctionDef):
            self.assertIsNone(node.args.vararg, where)
            self.assertIsNone(node.args.kwarg, where)
            self.assertEqual(node.args.posonlyargs, [], where)

    def test_names(self):
        own = set(dir(builtins))
        for path in FILES:
            tree = reading(path)
            drawn = {
                one.name for node in ast.walk(tree) if isinstance(node, ast.ImportFrom) for one in node.names
            }
            classes = {node.name for node in ast.walk(tree) if isinstance(node, ast.ClassDef)}
            given = list(given_names(tree))
            for name, row in given:
                where = f"{path.name}:{row}: {name}"
                self.assertRegex(name, r"^([a-zA-Z][a-zA-Z0-9_]*|__(init|eq|repr|str|len)__)$", where)
                self.assertNotIn(name, own | drawn | UNUSED, where)
            locals_given = [name for name, row in given if name in classes]
            self.assertEqual(sorted(locals_given), sorted(classes), path.name)
            known = {name for name, row in given} | drawn | NAMES
            for node in ast.walk(tree):
                if isinstance(node, ast.Name):
                    self.assertIn(node.id, known, f"{path.name}:{node.lineno}")

    def test_methods(self):
        own = {node.name for node, where in self.each(ast.FunctionDef)}
        given = {
            node.attr for node, where in self.each(ast.Attribute) if isinstance(node.ctx, ast.Store)
        }
        for node, where in self.each(ast.Attribute):
            self.assertIn(node.attr, METHODS | own | given, where)

    def test_what_is_walked_is_not_changed(self):
        for node, where in self.each(ast.For):
            self.assertNotIsInstance(node.iter, (ast.Set, ast.SetComp), where)
            walked = {one.id for one in ast.walk(node.iter) if isinstance(one, ast.Name)}
            for inner in [one for row in node.body for one in ast.walk(row)]:
                if isinstance(inner, ast.Call) and isinstance(inner.func, ast.Attribute):
                    changed = inner.func.value
                elif isinstance(inner, ast.Subscript) and isinstance(inner.ctx, ast.Store):
                    changed = inner.value
                else:
                    continue
                if isinstance(changed, ast.Name):
                    self.assertNotIn(changed.id, walked, where)


if __name__ == "__main__":
    unittest.main()

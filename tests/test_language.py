"""The rules of form that a test can see: files, sizes, signs, words, and what no step of the program may be."""

import ast
import builtins
import pathlib
import re
import unittest

PACKAGE = pathlib.Path(__file__).resolve().parent.parent / "holding"
FILES = sorted(PACKAGE.rglob("*.py"))

STATEMENTS = (
    ast.Module, ast.FunctionDef, ast.ClassDef, ast.Assign, ast.AugAssign, ast.If, ast.While, ast.For, ast.Return,
    ast.Break, ast.Continue, ast.Pass, ast.Raise, ast.Try, ast.Expr, ast.ImportFrom,
)
NO_EXPRESSIONS = (
    ast.Set, ast.SetComp, ast.DictComp, ast.GeneratorExp, ast.NamedExpr, ast.Starred, ast.Div, ast.Await, ast.Yield,
    ast.YieldFrom,
)
WORDS = (
    "type typing typing_extensions enum Enum IntEnum StrEnum Flag IntFlag Generic Protocol ABC ABCMeta namedtuple "
    "NamedTuple TypedDict TYPE_CHECKING abstractmethod"
).split()
BUILT_IN = (
    "len range enumerate zip min max sum abs sorted reversed int str bool list tuple dict set frozenset isinstance "
    "ord repr any all divmod"
).split()
METHODS = (
    "append clear copy count endswith extend find get index insert isalnum isalpha isdigit islower isspace isupper "
    "items join keys ljust lower lstrip partition pop remove replace reverse rfind rjust rpartition rsplit rstrip "
    "setdefault split splitlines startswith strip update upper values zfill bit_length"
).split()


def nodes():
    for path in FILES:
        for node in ast.walk(ast.parse(path.read_text())):
            yield path.name, node


class Form(unittest.TestCase):
    def test_files(self):
        self.assertIn(PACKAGE / "__init__.py", FILES)
        for path in PACKAGE.iterdir():
            if path.name != "__pycache__":
                self.assertRegex(path.name, r"^[a-z][a-z0-9_]*\.py$|^__init__\.py$")

    def test_sizes_and_signs(self):
        for path in FILES:
            text = path.read_bytes().decode("ascii")
            rows = text.split("\n")
            self.assertLessEqual(len(rows), 401, path)
            for number, row in enumerate(rows, start=1):
                self.assertLessEqual(len(row), 120, (path, number))
                self.assertTrue(all(" " <= sign <= "~" for sign in row), (path, number))

    def test_words(self):
        for path in FILES:
            text = path.read_text()
            self.assertEqual(set(re.findall(r"\w+", text)) & set(WORDS), set(), path)
            self.assertIsNone(re.search("dataclass|overload|contextmanager", text), path)

    def test_functions(self):
        for name, node in nodes():
            if isinstance(node, ast.FunctionDef):
                self.assertLessEqual(node.end_lineno - node.lineno + 1, 40, (name, node.name))
                self.assertFalse(node.decorator_list or node.args.vararg or node.args.kwarg or node.args.kwonlyargs)

    def test_steps(self):
        for name, node in nodes():
            where = (name, getattr(node, "lineno", 0), ast.dump(node)[:80])
            if isinstance(node, (ast.stmt, ast.mod)):
                self.assertIsInstance(node, STATEMENTS, where)
            self.assertNotIsInstance(node, NO_EXPRESSIONS, where)
            if isinstance(node, ast.Assign):
                self.assertEqual(len(node.targets), 1, where)
            if isinstance(node, (ast.For, ast.While)):
                self.assertFalse(node.orelse, where)
            if isinstance(node, ast.ListComp):
                self.assertEqual(len(node.generators), 1, where)
                self.assertLessEqual(len(node.generators[0].ifs), 1, where)
            if isinstance(node, ast.Constant):
                self.assertIsInstance(node.value, (int, str, bool, type(None)), where)
                self.assertNotIn("%", str(node.value), where)

    def test_names(self):
        for name, node in nodes():
            where = (name, getattr(node, "lineno", 0))
            if isinstance(node, ast.Name) and isinstance(node.ctx, ast.Store):
                self.assertNotIn(node.id, dir(builtins), where)
                self.assertFalse(node.id.startswith("_"), where)

    def test_calls(self):
        own = {node.name for name, node in nodes() if isinstance(node, (ast.FunctionDef, ast.ClassDef))}
        for name, node in nodes():
            if isinstance(node, ast.Call):
                where = (name, node.lineno)
                if isinstance(node.func, ast.Name):
                    self.assertIn(node.func.id, own | set(BUILT_IN), where)
                else:
                    self.assertIn(node.func.attr, METHODS, where)

    def test_imports(self):
        """Only the package's own; nothing from outside is drawn in."""
        for name, node in nodes():
            if isinstance(node, ast.ImportFrom):
                self.assertEqual(node.module.split(".")[0], "holding", (name, node.lineno))

    def test_imports_from_where_a_name_is_defined(self):
        """And no file draws from one that draws from it, in however many steps."""
        drawn = {}
        for path in FILES:
            rows = [node for node in ast.parse(path.read_text()).body if isinstance(node, ast.ImportFrom)]
            drawn[path.stem] = {node.module.split(".")[1] for node in rows}
            for node in rows:
                source = (PACKAGE / (node.module.split(".")[1] + ".py")).read_text()
                for alias in node.names:
                    self.assertIsNone(alias.asname, path)
                    self.assertRegex(source, r"(?m)^((def|class) %s\b|%s = )" % (alias.name, alias.name))
        while drawn:
            free = [name for name in drawn if not drawn[name] & set(drawn)]
            self.assertTrue(free, drawn)
            drawn = {name: drawn[name] for name in drawn if name not in free}


if __name__ == "__main__":
    unittest.main()

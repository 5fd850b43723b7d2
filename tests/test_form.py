"""The form of the package's own files, as far as it is easily seen."""

import ast
import builtins
import pathlib
import re
import unittest

PACKAGE = pathlib.Path(__file__).resolve().parent.parent / "pairnets"
FILES = sorted(PACKAGE.glob("*.py"))

PYTHONS_OWN = """len range enumerate zip min max sum abs sorted reversed int str bool list tuple dict set frozenset
    isinstance ord repr any all divmod Exception ValueError TypeError KeyError IndexError LookupError
    ZeroDivisionError ArithmeticError OverflowError RuntimeError NotImplementedError AttributeError
    StopIteration""".split()
METHODS = """append clear copy count endswith extend find get index insert isalnum isalpha isdigit islower isspace
    isupper items join keys ljust lower lstrip partition pop remove replace reverse rfind rjust rpartition rsplit
    rstrip setdefault split splitlines startswith strip update upper values zfill bit_length""".split()
WORDS = """type typing typing_extensions enum Enum IntEnum StrEnum Flag IntFlag Generic Protocol ABC ABCMeta
    namedtuple NamedTuple TypedDict TYPE_CHECKING abstractmethod""".split()
LEFT_OUT = (ast.With, ast.Delete, ast.Global, ast.Nonlocal, ast.Assert, ast.Yield, ast.YieldFrom, ast.AsyncFunctionDef,
            ast.Await, ast.Div, ast.SetComp, ast.DictComp, ast.GeneratorExp, ast.NamedExpr, ast.Starred, ast.Import,
            ast.Match, ast.Try, ast.AugAssign, ast.AnnAssign)


def nodes(path, kinds):
    return [node for node in ast.walk(ast.parse(path.read_text())) if isinstance(node, kinds)]


class Form(unittest.TestCase):
    def test_nothing_else_lies_in_the_package(self):
        found = [path for path in PACKAGE.iterdir() if path.name != "__pycache__"]
        self.assertEqual(sorted(found), FILES)
        self.assertIn(PACKAGE / "__init__.py", FILES)
        for path in FILES:
            self.assertRegex(path.name, r"^([a-z][a-z0-9_]*|__init__)\.py$")

    def test_sizes_and_signs(self):
        for path in FILES:
            text = path.read_bytes().decode("ascii")
            self.assertRegex(text, r"\A[\n -~]*\Z")
            self.assertLessEqual(len(text.splitlines()), 400)
            self.assertLessEqual(max(len(line) for line in text.splitlines()), 120)
            for node in nodes(path, ast.FunctionDef):
                self.assertLessEqual(node.end_lineno - node.lineno + 1, 40)

    def test_words(self):
        for path in FILES:
            text = path.read_text()
            self.assertEqual([word for word in WORDS if re.search(rf"\b{word}\b", text)], [])
            self.assertNotRegex(text, "dataclass|overload|contextmanager")

    def test_imports_are_the_packages_own(self):
        for path in FILES:
            for node in nodes(path, ast.ImportFrom):
                source = PACKAGE.parent / (node.module.replace(".", "/") + ".py")
                self.assertEqual(node.level, 0)
                self.assertIn(source, FILES)
                top = ast.parse(source.read_text()).body
                defined = [item.name for item in top if isinstance(item, (ast.FunctionDef, ast.ClassDef))]
                defined += [item.targets[0].id for item in top if isinstance(item, ast.Assign)]
                self.assertLessEqual({alias.name for alias in node.names}, set(defined))

    def test_statements_and_names(self):
        for path in FILES:
            self.assertEqual(nodes(path, LEFT_OUT), [])
            used = {node.id for node in nodes(path, ast.Name)}
            self.assertLessEqual(used & set(dir(builtins)), set(PYTHONS_OWN))
            self.assertEqual([word for word in used if word.startswith("_")], [])
            bound = {node.id for node in nodes(path, ast.Name) if not isinstance(node.ctx, ast.Load)}
            bound |= {node.arg for node in nodes(path, ast.arg)}
            self.assertEqual(bound & set(dir(builtins)), set())

    def test_methods(self):
        own = {node.name for path in FILES for node in nodes(path, ast.FunctionDef)}
        for path in FILES:
            called = {node.func.attr for node in nodes(path, ast.Call) if isinstance(node.func, ast.Attribute)}
            self.assertLessEqual(called, own | set(METHODS))


if __name__ == "__main__":
    unittest.main()

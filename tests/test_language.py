"""The package keeps to ../shared/LANGUAGE.md, as far as a plain look at its files can tell."""

import ast
import builtins
import re
import unittest
from pathlib import Path

PACKAGE = Path(__file__).resolve().parent.parent / "cornerfigures"
FILES = sorted(path for path in PACKAGE.rglob("*") if path.is_file() and path.suffix != ".pyc")

# L6 and L7, as far as the package needs them: a kind of row or expression that isn't here is to be looked up first.
KINDS = """
    Module FunctionDef arguments arg Expr ImportFrom alias Assign AugAssign If While For Return Break Continue Pass
    Constant Name Load Store List Tuple Dict BinOp Add Sub Mult FloorDiv Mod UnaryOp USub Not BoolOp And Or
    Compare Eq NotEq Lt LtE Gt GtE Is IsNot In NotIn IfExp Call Attribute Subscript Slice ListComp comprehension
""".split()
# L8
BUILTINS = """
    len range enumerate zip min max sum abs sorted reversed int str bool list tuple dict set frozenset isinstance ord
    repr any all divmod
""".split()
# L25
METHODS = """
    append clear copy count endswith extend find get index insert isalnum isalpha isdigit islower isspace isupper items
    join keys ljust lower lstrip partition pop remove replace reverse rfind rjust rpartition rsplit rstrip setdefault
    split splitlines startswith strip update upper values zfill bit_length
""".split()
# L17
NAMES_OUT = """
    register mro elements open input version_info with_traceback add_note attrgetter breakpoint builtins compile
    copyright credits delattr dir eval exec exit gc getattr globals hasattr help id importlib license locals methodcaller
    os quit setattr super type vars sys
""".split()
WORDS_OUT = """
    type typing typing_extensions enum Enum IntEnum StrEnum Flag IntFlag Generic Protocol ABC ABCMeta namedtuple
    NamedTuple TypedDict TYPE_CHECKING abstractmethod
""".split()
PARTS_OUT = ("dataclass", "overload", "contextmanager")


def tree(path):
    return ast.parse(path.read_text(encoding="utf-8"))


def bound(node):
    """The names that stand below a node as something that a value or a meaning is given to."""
    names = []
    for part in ast.walk(node):
        if isinstance(part, ast.Name) and isinstance(part.ctx, ast.Store):
            names.append(part.id)
        elif isinstance(part, ast.arg):
            names.append(part.arg)
        elif isinstance(part, ast.FunctionDef):
            names.append(part.name)
    return names


class Language(unittest.TestCase):
    def each(self, *kinds):
        for path in FILES:
            for node in ast.walk(tree(path)):
                if isinstance(node, kinds):
                    yield path.name, node

    def test_files(self):
        self.assertIn(PACKAGE / "desk.py", FILES)
        for path in FILES:
            self.assertRegex(path.name, r"^[a-z0-9_]+\.py$")
            self.assertFalse(path.stem.startswith("test"), path)
            if path.name != "__init__.py":
                self.assertFalse(hasattr(builtins, path.stem), path)

    def test_signs_and_sizes(self):
        for path in FILES:
            text = path.read_text(encoding="utf-8")
            self.assertRegex(text, r"\A[ -~\n]*\Z")
            self.assertLessEqual(len(text.splitlines()), 399)
            self.assertLessEqual(max(len(line) for line in text.splitlines()), 120)
        for name, node in self.each(ast.FunctionDef):
            self.assertLessEqual(node.end_lineno - node.lineno + 1, 40, node.name)

    def test_words(self):
        for path in FILES:
            text = path.read_text(encoding="utf-8")
            self.assertEqual([word for word in re.findall(r"\w+", text) if word in WORDS_OUT], [])
            self.assertEqual([part for part in PARTS_OUT if part in text], [])

    def test_kinds_of_rows_and_expressions(self):
        for name, node in self.each(ast.AST):
            self.assertIn(node.__class__.__name__, KINDS, (name, getattr(node, "lineno", None)))
        for name, node in self.each(ast.Constant):
            self.assertIn(node.value.__class__, (int, str, bool, None.__class__), (name, node.lineno))
        for name, node in self.each(ast.Assign):
            self.assertEqual(len(node.targets), 1, (name, node.lineno))
        for name, node in self.each(ast.While, ast.For):
            self.assertEqual(node.orelse, [], (name, node.lineno))
        for name, node in self.each(ast.ListComp):
            self.assertTrue(len(node.generators) == 1 and len(node.generators[0].ifs) <= 1, (name, node.lineno))

    def test_the_top_of_each_file(self):
        for path in FILES:
            rows = tree(path).body
            self.assertIsInstance(rows[0].value.value, str)
            for row in rows[1:]:
                self.assertIsInstance(row, (ast.ImportFrom, ast.FunctionDef, ast.Assign), path)
                if isinstance(row, ast.Assign):
                    ast.literal_eval(row.value)

    def test_functions(self):
        for name, node in self.each(ast.FunctionDef):
            self.assertEqual((node.decorator_list, node.returns), ([], None), node.name)
            spare = (node.args.vararg, node.args.kwarg, node.args.kwonlyargs, node.args.posonlyargs)
            self.assertEqual(spare, (None, None, [], []), node.name)

    def test_names(self):
        for path in FILES:
            names = bound(tree(path))
            for name in names:
                self.assertRegex(name, r"^[A-Za-z][A-Za-z0-9_]*$")
                self.assertFalse(hasattr(builtins, name) or name in NAMES_OUT, name)
            for node in ast.walk(tree(path)):
                if isinstance(node, ast.Name) and hasattr(builtins, node.id):
                    self.assertIn(node.id, BUILTINS, path)
                if isinstance(node, ast.Attribute):
                    self.assertIn(node.attr, METHODS, path)

    def test_each_name_once_at_the_top(self):
        for path in FILES:
            top = []
            for row in tree(path).body[1:]:
                top.extend([part.name for part in row.names] if isinstance(row, ast.ImportFrom)
                           else [row.name] if isinstance(row, ast.FunctionDef) else bound(row))
            self.assertEqual(len(top), len(set(top)), path)
            for row in tree(path).body:
                if isinstance(row, ast.FunctionDef):
                    self.assertEqual([name for name in bound(row)[1:] if name in top], [], (path, row.name))

    def test_imports(self):
        draws = {}
        for path in FILES:
            draws[path.stem] = []
            for node in ast.walk(tree(path)):
                if isinstance(node, ast.ImportFrom):
                    package, stem = node.module.split(".")
                    self.assertEqual((package, node.level), ("cornerfigures", 0))
                    defined = bound(tree(PACKAGE / (stem + ".py")))
                    self.assertEqual([part.name for part in node.names if part.name not in defined], [])
                    self.assertEqual([part.asname for part in node.names if part.asname], [])
                    draws[path.stem].append(stem)
        self.assertEqual(draws["__init__"], [])
        while draws:
            free = [stem for stem in draws if not [other for other in draws[stem] if other in draws]]
            self.assertNotEqual(free, [], "files that draw from one another")
            for stem in free:
                del draws[stem]


if __name__ == "__main__":
    unittest.main()

"""The package keeps to the part of Python that it may use, as far as a tree of its code shows that."""

import ast
import builtins
import pathlib
import re
import unittest

PACKAGE = pathlib.Path(__file__).resolve().parent.parent / "knotpanels"

STATEMENTS = (
    ast.Assign, ast.AugAssign, ast.If, ast.While, ast.For, ast.Return, ast.Break, ast.Continue, ast.Pass, ast.Raise,
    ast.Try, ast.Expr, ast.FunctionDef, ast.ClassDef, ast.ImportFrom,
)
EXPRESSIONS = (
    ast.BinOp, ast.UnaryOp, ast.BoolOp, ast.Compare, ast.IfExp, ast.Call, ast.Attribute, ast.Subscript, ast.Slice,
    ast.ListComp, ast.Name, ast.Constant, ast.List, ast.Tuple, ast.Dict, ast.Lambda, ast.JoinedStr, ast.FormattedValue,
)
PYTHON_NAMES = (
    "len range enumerate zip min max sum abs sorted reversed int str bool list tuple dict set frozenset isinstance "
    "ord repr any all divmod Exception ValueError KeyError IndexError LookupError ZeroDivisionError "
    "ArithmeticError OverflowError RuntimeError NotImplementedError StopIteration"
).split()
METHODS = (
    "append clear copy count endswith extend find get index insert isalnum isalpha isdigit islower isspace isupper "
    "items join keys ljust lower lstrip partition pop remove replace reverse rfind rjust rpartition rsplit rstrip "
    "setdefault split splitlines startswith strip update upper values zfill bit_length"
).split()
WORDS_NOWHERE = (
    r"\b(type|typing|typing_extensions|enum|Enum|IntEnum|StrEnum|Flag|IntFlag|Generic|Protocol|ABC|ABCMeta|namedtuple"
    r"|NamedTuple|TypedDict|TYPE_CHECKING|abstractmethod)\b|dataclass|overload|contextmanager"
)
NAMES_NOWHERE = (
    "register mro elements open input version_info with_traceback add_note format format_map attrgetter breakpoint "
    "builtins compile copyright credits delattr dir eval exec exit gc getattr globals hasattr help id importlib "
    "license locals methodcaller os quit setattr super sys vars chr print"
).split()


def files():
    return sorted(PACKAGE.glob("*.py"))


def trees():
    return [(path.name, ast.parse(path.read_text())) for path in files()]


def nodes(kind):
    return [(name, node) for name, tree in trees() for node in ast.walk(tree) if isinstance(node, kind)]


def own_names(tree):
    """The names that a file's top binds to functions, classes, imports and values."""
    found = []
    for node in tree.body:
        if isinstance(node, (ast.FunctionDef, ast.ClassDef)):
            found.append(node.name)
        if isinstance(node, ast.ImportFrom):
            found += [alias.name for alias in node.names]
        if isinstance(node, ast.Assign):
            found += [target.id for target in node.targets]
    return found


class Language(unittest.TestCase):
    def test_files_and_signs(self):
        inside = sorted(path.name for path in PACKAGE.iterdir() if path.name != "__pycache__")
        self.assertEqual(inside, [path.name for path in files()])
        for path in files():
            self.assertRegex(path.name, r"^(__init__|[a-z][a-z0-9_]*)\.py$")
            self.assertNotIn(path.stem, dir(builtins))
            text = path.read_bytes()
            self.assertTrue(all(sign == 10 or 32 <= sign <= 126 for sign in text), path.name)
            self.assertIsNone(re.search(WORDS_NOWHERE, text.decode()), path.name)

    def test_sizes(self):
        for path in files():
            lines = path.read_text().split("\n")
            self.assertLessEqual(len(lines), 400, path.name)
            self.assertLessEqual(max(len(line) for line in lines), 120, path.name)
        for name, node in nodes(ast.FunctionDef):
            self.assertLessEqual(node.end_lineno - node.lineno + 1, 40, (name, node.name))

    def test_statements_and_expressions(self):
        for name, node in nodes(ast.stmt):
            self.assertIsInstance(node, STATEMENTS, (name, node.lineno))
        for name, node in nodes(ast.expr):
            self.assertIsInstance(node, EXPRESSIONS, (name, node.lineno))
            self.assertFalse(isinstance(node, ast.Constant) and isinstance(node.value, (float, bytes)), name)
        for name, node in nodes((ast.Div, ast.MatMult, ast.AnnAssign)):
            self.fail(name)
        for name, node in nodes((ast.For, ast.While)):
            self.assertEqual(node.orelse, [], (name, node.lineno))
        for name, node in nodes(ast.Assign):
            self.assertEqual(len(node.targets), 1, (name, node.lineno))
        for name, node in nodes(ast.ListComp):
            self.assertEqual(len(node.generators), 1, (name, node.lineno))
            self.assertLessEqual(len(node.generators[0].ifs), 1, (name, node.lineno))
        for name, node in nodes(ast.BinOp):
            if isinstance(node.op, ast.Pow):
                self.assertIsInstance(node.right, ast.Constant, (name, node.lineno))

    def test_imports(self):
        stems = [path.stem for path in files()]
        draws = {stem: [] for stem in stems}
        for name, node in nodes(ast.ImportFrom):
            package, stem = node.module.split(".")
            self.assertEqual((package, node.level), ("knotpanels", 0), name)
            tree = ast.parse((PACKAGE / (stem + ".py")).read_text())
            defined = own_names(ast.Module([n for n in tree.body if not isinstance(n, ast.ImportFrom)], []))
            for alias in node.names:
                self.assertIn(alias.name, defined, name)
                self.assertIsNone(alias.asname, name)
            draws[name[:-3]].append(stem)
        while draws:
            free = [stem for stem in draws if not any(other in draws for other in draws[stem])]
            self.assertNotEqual(free, [], "files draw from one another")
            draws = {stem: draws[stem] for stem in draws if stem not in free}

    def test_names(self):
        for name, tree in trees():
            top = own_names(tree)
            self.assertEqual(len(top), len(set(top)), name)
            for node in ast.walk(tree):
                if isinstance(node, ast.Name):
                    self.check_name(name, node.id)
                    if isinstance(node.ctx, ast.Load) and node.id in dir(builtins):
                        self.assertIn(node.id, PYTHON_NAMES, (name, node.lineno))
                    if isinstance(node.ctx, ast.Store):
                        self.assertNotIn(node.id, dir(builtins), (name, node.lineno))
                if isinstance(node, ast.FunctionDef):
                    self.check_function(name, node, top)

    def check_name(self, name, word):
        self.assertRegex(word, r"^[A-Za-z][A-Za-z0-9_]*$", name)
        self.assertNotIn(word, NAMES_NOWHERE, name)

    def check_function(self, name, node, top):
        self.assertEqual(node.decorator_list, [], node.name)
        plain = node.args
        self.assertFalse(plain.vararg or plain.kwarg or plain.kwonlyargs or plain.posonlyargs, node.name)
        bound = [argument.arg for argument in plain.args]
        bound += [n.id for n in ast.walk(node) if isinstance(n, ast.Name) and isinstance(n.ctx, ast.Store)]
        for word in bound:
            self.check_name(name, word)
            self.assertNotIn(word, dir(builtins), (name, node.name))
            self.assertNotIn(word, top, (name, node.name))

    def test_methods(self):
        own = [node.name for name, node in nodes(ast.FunctionDef)]
        for name, node in nodes(ast.Call):
            if isinstance(node.func, ast.Attribute):
                self.assertIn(node.func.attr, METHODS + own, (name, node.lineno))
        for name, node in nodes(ast.Attribute):
            self.assertNotIn(node.attr, NAMES_NOWHERE, (name, node.lineno))
            self.assertFalse(node.attr.startswith("_"), (name, node.lineno))


if __name__ == "__main__":
    unittest.main()

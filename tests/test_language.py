"""The package's own files, held against ../shared/LANGUAGE.md as far as a plain look at the code can."""

import ast
import builtins
import pathlib
import re
import unittest

PACKAGE = pathlib.Path(__file__).resolve().parent.parent / "promisesheld"
FILES = sorted(PACKAGE.glob("*.py"))

OWN_NAMES = set(
    "len range enumerate zip min max sum abs sorted reversed int str bool list tuple dict set frozenset isinstance "
    "ord repr any all divmod Exception ValueError TypeError KeyError IndexError LookupError ZeroDivisionError "
    "ArithmeticError OverflowError RuntimeError NotImplementedError StopIteration".split()
)
OWN_METHODS = set(
    "append clear copy count endswith extend find get index insert isalnum isalpha isdigit islower isspace isupper "
    "items join keys ljust lower lstrip partition pop remove replace reverse rfind rjust rpartition rsplit rstrip "
    "setdefault split splitlines startswith strip update upper values zfill bit_length".split()
)
NOT_USED = set(
    "register mro elements open input version_info with_traceback add_note attrgetter breakpoint builtins compile "
    "copyright credits delattr dir eval exec exit gc getattr globals hasattr help id importlib license locals "
    "methodcaller os quit setattr super type vars sys format format_map".split()
)
WORDS = (
    r"\b(type|typing|typing_extensions|enum|Enum|IntEnum|StrEnum|Flag|IntFlag|Generic|Protocol|ABC|ABCMeta|namedtuple"
    r"|NamedTuple|TypedDict|TYPE_CHECKING|abstractmethod)\b|dataclass|overload|contextmanager"
)
WALKED = ("zip", "enumerate", "reversed", "range", "items", "keys", "values")
WALKERS = ("list", "tuple", "dict", "sorted", "sum", "any", "all", "enumerate", "zip", "min", "max")
STATEMENTS = (
    ast.FunctionDef, ast.ClassDef, ast.Assign, ast.AugAssign, ast.If, ast.While, ast.For, ast.Return, ast.Break,
    ast.Continue, ast.Pass, ast.Raise, ast.Try, ast.Expr, ast.ImportFrom,
)
EXPRESSIONS = (
    ast.BoolOp, ast.BinOp, ast.UnaryOp, ast.Lambda, ast.IfExp, ast.Dict, ast.Set, ast.ListComp, ast.Compare, ast.Call,
    ast.JoinedStr, ast.FormattedValue, ast.Constant, ast.Attribute, ast.Subscript, ast.Name, ast.List, ast.Tuple,
    ast.Slice,
)
PLAIN = (ast.Constant, ast.UnaryOp, ast.USub, ast.Tuple, ast.List, ast.Dict, ast.Load, ast.Name)


def trees():
    return [(path.name, ast.parse(path.read_text(encoding="utf-8"))) for path in FILES]


def nodes(kind):
    return [(name, node) for name, tree in trees() for node in ast.walk(tree) if isinstance(node, kind)]


def drawn():
    """For each file, the files of the package that it draws from."""
    found = {}
    for name, node in nodes(ast.ImportFrom):
        found.setdefault(name, set()).add(node.module.removeprefix("promisesheld.") + ".py")
    return found


class Language(unittest.TestCase):

    def test_files(self):
        self.assertIn("__init__.py", [path.name for path in FILES])
        for path in PACKAGE.iterdir():
            if path.name == "__pycache__":
                continue
            self.assertRegex(path.name, r"^(__init__|[a-z][a-z0-9_]*)\.py$")
            self.assertNotIn(path.stem, dir(builtins))
            self.assertFalse(path.stem.startswith("test"))

    def test_signs_and_sizes(self):
        for path in FILES:
            text = path.read_bytes().decode("ascii")
            self.assertRegex(text, r"\A[ -~\n]*\Z", path.name)
            self.assertIsNone(re.search(WORDS, text), path.name)
            rows = text.split("\n")
            self.assertLessEqual(len(rows), 400, path.name)
            self.assertLessEqual(max(len(row) for row in rows), 120, path.name)
        for name, node in nodes((ast.FunctionDef, ast.Lambda)):
            self.assertLessEqual(node.end_lineno - node.lineno + 1, 40, (name, node.lineno))

    def test_imports(self):
        for name, node in nodes(ast.ImportFrom):
            self.assertEqual(node.level, 0, name)
            self.assertRegex(node.module, r"^promisesheld\.[a-z_]+$", name)
            tree = dict(trees())[node.module.removeprefix("promisesheld.") + ".py"]
            bound = [one.name for one in tree.body if isinstance(one, (ast.FunctionDef, ast.ClassDef))]
            bound += [one.targets[0].id for one in tree.body if isinstance(one, ast.Assign)]
            for alias in node.names:
                self.assertIn(alias.name, bound, name)
                self.assertIsNone(alias.asname, name)

    def test_no_two_files_draw_from_one_another(self):
        left = {path.name: drawn().get(path.name, set()) for path in FILES}
        while left:
            bare = [name for name in left if not left[name] & set(left)]
            self.assertTrue(bare, left)
            for name in bare:
                left.pop(name)

    def test_top_of_a_module(self):
        for name, tree in trees():
            self.assertIsInstance(tree.body[0], ast.Expr, name)
            bound = []
            for node in tree.body[1:]:
                self.assertIsInstance(node, (ast.ImportFrom, ast.FunctionDef, ast.ClassDef, ast.Assign), name)
                if isinstance(node, ast.Assign):
                    bound.append(node.targets[0].id)
                    for part in ast.walk(node.value):
                        self.assertIsInstance(part, PLAIN, name)
                elif isinstance(node, ast.ImportFrom):
                    bound.extend(alias.name for alias in node.names)
                else:
                    bound.append(node.name)
            self.assertEqual(len(bound), len(set(bound)), name)

    def test_statements_and_expressions(self):
        for name, node in nodes((ast.stmt, ast.expr)):
            self.assertIsInstance(node, STATEMENTS + EXPRESSIONS, (name, node.lineno))
        for name, node in nodes((ast.For, ast.While, ast.Try)):
            self.assertFalse(getattr(node, "finalbody", None), name)
            self.assertFalse(node.orelse and not isinstance(node, ast.Try), name)
        for name, node in nodes(ast.Assign):
            self.assertEqual(len(node.targets), 1, name)
        for name, node in nodes(ast.ListComp):
            self.assertEqual(len(node.generators), 1, name)
            self.assertLessEqual(len(node.generators[0].ifs), 1, name)
        for name, node in nodes((ast.Div, ast.Is, ast.IsNot, ast.Pow, ast.Starred)):
            self.fail((name, node))
        for name, node in nodes(ast.Constant):
            self.assertIsInstance(node.value, (int, str, bool, type(None)), name)

    def test_functions_and_classes(self):
        for name, node in nodes((ast.FunctionDef, ast.ClassDef)):
            self.assertEqual(node.decorator_list, [], name)
        for name, node in nodes(ast.FunctionDef):
            given = node.args
            self.assertFalse(given.vararg or given.kwarg or given.kwonlyargs or given.posonlyargs or node.returns, name)
            self.assertFalse([one for one in given.args if one.annotation], name)
        for name, node in nodes(ast.ClassDef):
            self.assertFalse(node.keywords, name)
            for part in node.body:
                self.assertIsInstance(part, (ast.FunctionDef, ast.Expr), name)

    def test_names(self):
        methods = {part.name for name, node in nodes(ast.ClassDef) for part in node.body
                   if isinstance(part, ast.FunctionDef)}
        for name, node in nodes((ast.Name, ast.arg)):
            word = node.id if isinstance(node, ast.Name) else node.arg
            self.assertNotIn(word, NOT_USED, name)
            self.assertRegex(word, r"^[A-Za-z]\w*$", name)
            if isinstance(node, ast.arg) or isinstance(node.ctx, ast.Store):
                self.assertNotIn(word, dir(builtins), name)
            elif word in dir(builtins):
                self.assertIn(word, OWN_NAMES, name)
        for name, node in nodes(ast.Attribute):
            self.assertNotIn(node.attr, NOT_USED, name)
            self.assertRegex(node.attr, r"^[A-Za-z]\w*$", name)
        for name, node in nodes(ast.Call):
            if isinstance(node.func, ast.Attribute):
                self.assertIn(node.func.attr, OWN_METHODS | methods, name)

    def test_methods_are_no_values(self):
        methods = {part.name for name, node in nodes(ast.ClassDef) for part in node.body
                   if isinstance(part, ast.FunctionDef)}
        held = {node.attr for name, node in nodes(ast.Attribute) if isinstance(node.ctx, ast.Store)}
        self.assertFalse(methods & held)
        for one in held | methods - {"__init__"}:
            for kind in (str, int, list, dict, set, bytes, tuple):
                self.assertFalse(hasattr(kind, one), one)

    def test_locals_are_not_called_like_classes_or_imports(self):
        for name, tree in trees():
            taken = {alias.name for node in tree.body if isinstance(node, ast.ImportFrom) for alias in node.names}
            taken |= {node.name for node in tree.body if isinstance(node, ast.ClassDef)}
            for node in ast.walk(tree):
                if isinstance(node, ast.arg):
                    self.assertNotIn(node.arg, taken, name)
                elif isinstance(node, ast.Name) and isinstance(node.ctx, ast.Store):
                    self.assertNotIn(node.id, taken, name)

    def test_walked_at_once(self):
        spots = [(name, node.iter.lineno, node.iter.col_offset) for name, node in nodes((ast.For, ast.comprehension))]
        for name, node in nodes(ast.Call):
            if isinstance(node.func, ast.Name) and node.func.id in WALKERS:
                spots.extend((name, part.lineno, part.col_offset) for part in node.args[:1])
        for name, node in nodes(ast.Call):
            word = node.func.attr if isinstance(node.func, ast.Attribute) else node.func.id
            if word in WALKED:
                self.assertIn((name, node.lineno, node.col_offset), spots)

    def test_what_is_not_needed_is_not_there(self):
        # no errors are raised or taken and no set is made, so that L19 and L24 have nothing to ask
        for name, node in nodes((ast.Try, ast.Raise, ast.Set, ast.JoinedStr, ast.Lambda)):
            self.fail((name, node.lineno))
        for name, node in nodes(ast.Name):
            self.assertNotIn(node.id, ("set", "frozenset"), name)

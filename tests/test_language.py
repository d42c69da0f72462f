"""The form of the package's files: those rules of the program's language that a reader of trees can see."""

import ast
import builtins
import keyword
import re
import unittest
from pathlib import Path

PACKAGE = Path(__file__).resolve().parent.parent / "foundagain"

STATEMENTS = (ast.Assign, ast.AugAssign, ast.AnnAssign, ast.If, ast.While, ast.For, ast.Return, ast.Break,
              ast.Continue, ast.Pass, ast.Raise, ast.Try, ast.ExceptHandler, ast.Expr, ast.ImportFrom, ast.FunctionDef,
              ast.ClassDef)
EXPRESSIONS = (ast.Constant, ast.Name, ast.Attribute, ast.Subscript, ast.Slice, ast.Call, ast.List, ast.Tuple,
               ast.Dict, ast.Set, ast.BinOp, ast.UnaryOp, ast.BoolOp, ast.Compare, ast.IfExp, ast.ListComp, ast.Lambda,
               ast.JoinedStr, ast.FormattedValue)
PARTS = (ast.Module, ast.arguments, ast.arg, ast.keyword, ast.alias, ast.comprehension, ast.expr_context,
         ast.operator, ast.unaryop, ast.boolop, ast.cmpop)
BUILT_IN = set("""len range enumerate zip min max sum abs sorted reversed int str bool list tuple dict set frozenset
    isinstance ord repr any all divmod Exception ValueError TypeError KeyError IndexError LookupError
    ZeroDivisionError ArithmeticError OverflowError RuntimeError NotImplementedError AttributeError
    StopIteration""".split())
METHODS = set("""append clear copy count endswith extend find get index insert isalnum isalpha isdigit islower isspace
    isupper items join keys ljust lower lstrip partition pop remove replace reverse rfind rjust rpartition rsplit
    rstrip setdefault split splitlines startswith strip update upper values zfill bit_length""".split())
NO_ATTRIBUTES = set("""register mro elements open input version_info with_traceback add_note format format_map
    sort args encode""".split())
NO_NAMES = NO_ATTRIBUTES | set("""attrgetter breakpoint builtins compile copyright credits delattr dir eval exec exit
    gc getattr globals hasattr help id importlib license locals methodcaller os quit setattr super type vars sys
    hash next map filter""".split())
NO_WORDS = re.compile(r"\b(type|typing|typing_extensions|enum|Enum|IntEnum|StrEnum|Flag|IntFlag|Generic|Protocol|ABC"
                      r"|ABCMeta|namedtuple|NamedTuple|TypedDict|TYPE_CHECKING|abstractmethod)\b"
                      r"|dataclass|overload|contextmanager")
# Names of Python's own values that the program's methods may bear, or the values of its objects.
METHODS_TOO = METHODS | {"add", "discard"}
VALUES_TOO = set("count index title find get join lower upper split strip copy add".split())
PYTHONS_OWN = {name for kind in (str, int, list, tuple, dict, set, bytes) for name in dir(kind)}
TWO_UNDERSCORES = ("__init__", "__eq__", "__repr__", "__str__", "__len__")


def files():
    return sorted(PACKAGE.rglob("*.py"))


def nodes(kind):
    """All nodes of a kind in the package, each with the place to tell of it."""
    for path in files():
        for node in ast.walk(ast.parse(path.read_text(encoding="utf-8"))):
            if isinstance(node, kind):
                yield f"{path.name}:{getattr(node, 'lineno', 0)}", node


def bound_names(tree):
    """Every name that a file binds anywhere."""
    bound = {alias.name for node in ast.walk(tree) if isinstance(node, ast.ImportFrom) for alias in node.names}
    bound |= {node.name for node in ast.walk(tree) if isinstance(node, (ast.FunctionDef, ast.ClassDef))}
    bound |= {node.arg for node in ast.walk(tree) if isinstance(node, ast.arg)}
    bound |= {node.id for node in ast.walk(tree) if isinstance(node, ast.Name) and isinstance(node.ctx, ast.Store)}
    return bound


def top_names(tree):
    """The names that a file binds at its top, but by imports, as often as it does."""
    named = [node.name for node in tree.body if isinstance(node, (ast.FunctionDef, ast.ClassDef))]
    return named + [node.targets[0].id for node in tree.body if isinstance(node, ast.Assign)]


class Files(unittest.TestCase):
    def test_nothing_else_lies_in_the_package(self):
        for path in PACKAGE.rglob("*"):
            if "__pycache__" not in path.parts:
                self.assertTrue(path.is_dir() or re.fullmatch(r"[a-z0-9_]+\.py", path.name), path)

    def test_signs_and_sizes(self):
        for path in files():
            text = path.read_text(encoding="utf-8")
            self.assertRegex(text, r"\A[ -~\n]*\Z", path.name)
            self.assertIsNone(NO_WORDS.search(text), path.name)
            lines = text.splitlines()
            self.assertLessEqual(len(lines), 399, path.name)
            self.assertLessEqual(max(map(len, lines), default=0), 120, path.name)

    def test_the_top_of_a_file(self):
        for path in files():
            tree = ast.parse(path.read_text(encoding="utf-8"))
            self.assertIsNotNone(ast.get_docstring(tree), path.name)
            for node in tree.body[1:]:
                self.assertIsInstance(node, (ast.ImportFrom, ast.FunctionDef, ast.ClassDef, ast.Assign), path.name)
            self.assertEqual(len(top_names(tree)), len(set(top_names(tree))), path.name)

    def test_imports_are_from_the_file_that_defines_the_name(self):
        for place, node in nodes(ast.ImportFrom):
            self.assertTrue(node.level == 0 and node.module.startswith("foundagain."), place)
            source = PACKAGE.joinpath(*node.module.split(".")[1:]).with_suffix(".py")
            defined = top_names(ast.parse(source.read_text(encoding="utf-8")))
            for alias in node.names:
                self.assertIn(alias.name, defined, place)

    def test_no_two_files_draw_from_one_another(self):
        drawn = {}
        for path in files():
            imports = [node for node in ast.parse(path.read_text()).body if isinstance(node, ast.ImportFrom)]
            drawn[path.stem] = {node.module.split(".")[-1] for node in imports}
        while drawn:
            leaves = [name for name in drawn if not drawn[name] & set(drawn)]
            self.assertTrue(leaves, f"these draw from one another: {sorted(drawn)}")
            drawn = {name: drawn[name] for name in drawn if name not in leaves}


class Form(unittest.TestCase):
    def test_statements_and_expressions(self):
        for place, node in nodes(ast.AST):
            self.assertIsInstance(node, STATEMENTS + EXPRESSIONS + PARTS, place)
            self.assertFalse(isinstance(node, (ast.While, ast.For)) and node.orelse, place)
            self.assertFalse(isinstance(node, ast.Try) and node.finalbody, place)
            self.assertFalse(isinstance(node, ast.Assign) and len(node.targets) > 1, place)
            self.assertNotIsInstance(node, (ast.Div, ast.MatMult), place)
            if isinstance(node, ast.ListComp):
                self.assertTrue(len(node.generators) == 1 and len(node.generators[0].ifs) < 2, place)
            if isinstance(node, ast.Expr):
                self.assertIsInstance(node.value, (ast.Call, ast.Constant), place)

    def test_values(self):
        for place, node in nodes(ast.Constant):
            self.assertIsInstance(node.value, (int, str, type(None)), place)
            self.assertNotIn("%", str(node.value), place)

    def test_functions(self):
        for place, node in nodes(ast.FunctionDef):
            self.assertLessEqual(node.end_lineno - node.lineno + 1, 40, place)
            self.assertFalse(node.decorator_list or node.args.vararg or node.args.kwarg, place)
            self.assertFalse(node.args.kwonlyargs or node.args.posonlyargs, place)
            self.assertTrue(node.name in TWO_UNDERSCORES or not node.name.startswith("_"), place)

    def test_classes(self):
        for place, node in nodes(ast.ClassDef):
            self.assertFalse(node.decorator_list or node.keywords or len(node.bases) > 1, place)
            for part in node.body[1:]:
                self.assertIsInstance(part, ast.FunctionDef, place)

    def test_names(self):
        for path in files():
            tree = ast.parse(path.read_text(encoding="utf-8"))
            bound = bound_names(tree)
            self.assertFalse(bound & (BUILT_IN | NO_NAMES), path.name)
            self.assertFalse([name for name in bound if name.startswith("_") and name not in TWO_UNDERSCORES])
            self.assertFalse([name for name in bound if keyword.issoftkeyword(name)], path.name)
            for node in ast.walk(tree):
                if isinstance(node, ast.Name) and isinstance(node.ctx, ast.Load):
                    self.assertIn(node.id, bound | BUILT_IN, f"{path.name}:{node.lineno}")

    def test_methods_and_values(self):
        methods = {part.name for place, node in nodes(ast.ClassDef) for part in node.body[1:]}
        for place, node in nodes(ast.Attribute):
            self.assertNotIn(node.attr, NO_ATTRIBUTES, place)
            self.assertFalse(node.attr.startswith("_") and node.attr not in TWO_UNDERSCORES, place)
            self.assertFalse(isinstance(node.ctx, ast.Store) and node.attr in methods, place)
        for place, node in nodes(ast.Call):
            if isinstance(node.func, ast.Attribute):
                self.assertIn(node.func.attr, methods | METHODS | set(TWO_UNDERSCORES), place)
            self.assertFalse([part for part in node.args if isinstance(part, ast.Starred)], place)

    def test_no_local_is_called_like_an_import_or_a_class(self):
        for path in files():
            tree = ast.parse(path.read_text(encoding="utf-8"))
            taken = {alias.name for node in tree.body if isinstance(node, ast.ImportFrom) for alias in node.names}
            taken |= {node.name for node in tree.body if isinstance(node, ast.ClassDef)} | set(dir(builtins))
            for node in ast.walk(tree):
                if isinstance(node, ast.FunctionDef):
                    self.assertFalse((bound_names(node) - {node.name}) & taken, f"{path.name}:{node.lineno}")

    def test_own_names_are_not_those_of_pythons_values(self):
        for place, node in nodes(ast.ClassDef):
            named = {part.name for part in node.body[1:]} - set(TWO_UNDERSCORES)
            self.assertFalse((named & PYTHONS_OWN) - METHODS_TOO, place)
        for place, node in nodes(ast.Attribute):
            if isinstance(node.ctx, ast.Store):
                self.assertFalse(({node.attr} & PYTHONS_OWN) - VALUES_TOO, place)

    def test_errors_are_the_programs_own(self):
        own = {node.name for place, node in nodes(ast.ClassDef)}
        for place, node in nodes((ast.ExceptHandler, ast.Raise)):
            named = node.type if isinstance(node, ast.ExceptHandler) else node.exc.func
            self.assertIn(named.id, own, place)

    def test_is_stands_beside_plain_values(self):
        for place, node in nodes(ast.Compare):
            if any(isinstance(sign, (ast.Is, ast.IsNot)) for sign in node.ops):
                self.assertIsInstance(node.comparators[0], ast.Constant, place)


if __name__ == "__main__":
    unittest.main()

"""The package keeps to the rules of LANGUAGE.md, as far as they can be read off its files."""

import ast
import builtins
import pathlib
import re
import unittest

PACKAGE = pathlib.Path(__file__).resolve().parent.parent / "roadsclosed"

STATEMENTS = (
    ast.Module, ast.FunctionDef, ast.ClassDef, ast.ImportFrom, ast.Assign, ast.AugAssign, ast.If, ast.While, ast.For,
    ast.Return, ast.Break, ast.Continue, ast.Pass, ast.Raise, ast.Try, ast.ExceptHandler, ast.Expr, ast.alias,
    ast.arguments, ast.arg, ast.keyword,
)
EXPRESSIONS = (
    ast.Constant, ast.List, ast.Tuple, ast.Dict, ast.BinOp, ast.UnaryOp, ast.BoolOp, ast.Compare, ast.IfExp, ast.Call,
    ast.Attribute, ast.Subscript, ast.Slice, ast.Name, ast.ListComp, ast.comprehension, ast.JoinedStr,
    ast.FormattedValue, ast.Lambda, ast.operator, ast.unaryop, ast.boolop, ast.cmpop, ast.expr_context,
)
OWN_OF_PYTHON = set("""
    len range enumerate zip min max sum abs sorted reversed int str bool list tuple dict set frozenset isinstance ord
    repr any all divmod Exception ValueError TypeError KeyError IndexError LookupError ZeroDivisionError
    ArithmeticError OverflowError RuntimeError NotImplementedError AttributeError StopIteration
""".split())
METHODS = set("""
    append clear copy count endswith extend find get index insert isalnum isalpha isdigit islower isspace isupper items
    join keys ljust lower lstrip partition pop remove replace reverse rfind rjust rpartition rsplit rstrip setdefault
    split splitlines startswith strip update upper values zfill bit_length
""".split())
NOT_NAMES = set("""
    register mro elements open input version_info with_traceback add_note attrgetter breakpoint builtins compile
    copyright credits delattr dir eval exec exit gc getattr globals hasattr help id importlib license locals
    methodcaller os quit setattr super type vars sys format format_map
""".split())
NOT_WORDS = re.compile(
    r"\b(type|typing|typing_extensions|enum|Enum|IntEnum|StrEnum|Flag|IntFlag|Generic|Protocol|ABC|ABCMeta|namedtuple"
    r"|NamedTuple|TypedDict|TYPE_CHECKING|abstractmethod)\b|dataclass|overload|contextmanager")
WALKED = ("zip", "enumerate", "reversed", "range", "items", "keys", "values")
WALKERS = ("list", "tuple", "dict", "sorted", "sum", "any", "all", "enumerate", "zip")
KEYWORDS = {"sorted": ("key", "reverse"), "min": ("key", "default"), "max": ("key", "default"), "sum": ("start",),
            "enumerate": ("start",), "zip": ("strict",)}
TWO_UNDERSCORES = {"__init__", "__eq__", "__repr__", "__str__", "__len__"}


def files():
    return sorted(path for path in PACKAGE.rglob("*") if "__pycache__" not in path.parts)


def trees():
    return [(path, ast.parse(path.read_text(encoding="ascii"))) for path in files()]


def nodes(kind):
    return [(path.name, node) for path, tree in trees() for node in ast.walk(tree) if isinstance(node, kind)]


def bound_at_top(tree):
    names = []
    for node in tree.body:
        if isinstance(node, (ast.FunctionDef, ast.ClassDef)):
            names.append(node.name)
        elif isinstance(node, ast.Assign):
            names += [target.id for target in node.targets]
        elif isinstance(node, ast.ImportFrom):
            names += [alias.name for alias in node.names]
    return names


def called(node):
    """The name by which a call calls."""
    return node.func.attr if isinstance(node.func, ast.Attribute) else getattr(node.func, "id", "")


def walking_spots(tree):
    """What stands where it is walked on the spot."""
    spots = [node.iter for node in ast.walk(tree) if isinstance(node, (ast.For, ast.comprehension))]
    for node in ast.walk(tree):
        if isinstance(node, ast.Call) and called(node) in WALKERS:
            spots += node.args[:1]
    return spots


class Files(unittest.TestCase):
    def test_names(self):
        self.assertIn("__init__.py", [path.name for path in files()])
        for path in files():
            self.assertRegex(path.name, r"^(__init__|__main__|[a-z][a-z0-9_]*)\.py$")
            self.assertNotIn(path.stem, dir(builtins))
            self.assertFalse(path.stem.startswith("test") or path.stem in ("site", "conftest"), path.name)

    def test_signs_and_size(self):
        for path in files():
            text = path.read_text(encoding="ascii")
            self.assertRegex(text, r"\A[ -~\n]*\Z", path.name)
            self.assertIsNone(NOT_WORDS.search(text), path.name)
            self.assertLessEqual(len(text.splitlines()), 400)
            self.assertLessEqual(max(len(line) for line in text.splitlines()), 120)

    def test_functions_are_short(self):
        for name, node in nodes(ast.FunctionDef):
            self.assertLessEqual(node.end_lineno - node.lineno + 1, 40, (name, node.name))


class Forms(unittest.TestCase):
    def test_only_these_forms(self):
        for name, node in nodes(ast.AST):
            self.assertIsInstance(node, STATEMENTS + EXPRESSIONS, (name, getattr(node, "lineno", 0)))

    def test_no_division_and_no_float(self):
        self.assertEqual(nodes(ast.Div) + nodes(ast.MatMult), [])
        for name, node in nodes(ast.Constant):
            self.assertIsInstance(node.value, (int, str, type(None)), (name, node.lineno))

    def test_one_target_and_no_else_behind_a_loop(self):
        for name, node in nodes(ast.Assign):
            self.assertEqual(len(node.targets), 1, (name, node.lineno))
            self.assertNotIsInstance(node.targets[0], (ast.Tuple, ast.List), (name, node.lineno))
        for name, node in nodes((ast.For, ast.While)):
            self.assertEqual(node.orelse, [], (name, node.lineno))

    def test_plain_functions_without_annotations(self):
        for name, node in nodes(ast.FunctionDef):
            args = node.args
            self.assertEqual((node.decorator_list, node.returns), ([], None), (name, node.name))
            self.assertEqual((args.vararg, args.kwarg, args.kwonlyargs, args.posonlyargs), (None, None, [], []))
            self.assertEqual([arg.annotation for arg in args.args if arg.annotation], [], (name, node.name))

    def test_is_stands_beside_none_true_false(self):
        for name, node in nodes(ast.Compare):
            for sign, side in zip(node.ops, node.comparators):
                if isinstance(sign, (ast.Is, ast.IsNot)):
                    self.assertIn(getattr(side, "value", 0), (None, True, False), (name, node.lineno))


class Names(unittest.TestCase):
    def test_pythons_own(self):
        for name, node in nodes(ast.Name):
            if node.id in dir(builtins):
                self.assertIn(node.id, OWN_OF_PYTHON, (name, node.lineno))
                self.assertIsInstance(node.ctx, ast.Load, (name, node.lineno))

    def test_own_names(self):
        for name, node in nodes((ast.Name, ast.arg, ast.Attribute, ast.FunctionDef, ast.ClassDef)):
            word = [getattr(node, key) for key in ("id", "arg", "attr", "name") if hasattr(node, key)][0]
            if word not in TWO_UNDERSCORES:
                self.assertRegex(word, r"^[A-Za-z][A-Za-z0-9_]*$", (name, node.lineno))
            self.assertNotIn(word, NOT_NAMES, (name, node.lineno))
            if not isinstance(node, (ast.Name, ast.Attribute)):
                self.assertNotIn(word, dir(builtins), (name, node.lineno))

    def test_methods(self):
        own = {node.name for name, node in nodes(ast.FunctionDef)}
        for name, node in nodes(ast.Call):
            if isinstance(node.func, ast.Attribute):
                self.assertIn(node.func.attr, METHODS | own, (name, node.lineno))

    def test_bound_once_at_the_top(self):
        for path, tree in trees():
            names = bound_at_top(tree)
            self.assertEqual(len(names), len(set(names)), path.name)
            inside = [node.id for node in ast.walk(tree) if isinstance(node, ast.Name)
                      and isinstance(node.ctx, ast.Store) and node.col_offset > 0]
            inside += [node.arg for node in ast.walk(tree) if isinstance(node, ast.arg)]
            self.assertEqual(set(inside) & set(names), set(), path.name)


class Values(unittest.TestCase):
    def test_one_for_and_at_most_one_if(self):
        for name, node in nodes(ast.ListComp):
            self.assertEqual(len(node.generators), 1, (name, node.lineno))
            self.assertLessEqual(len(node.generators[0].ifs), 1, (name, node.lineno))

    def test_walked_at_once(self):
        for path, tree in trees():
            spots = walking_spots(tree)
            for node in ast.walk(tree):
                if isinstance(node, ast.Call) and called(node) in WALKED:
                    self.assertIn(node, spots, (path.name, node.lineno))

    def test_no_set_is_kept(self):
        for name, node in nodes(ast.Call):
            self.assertNotIn(called(node), ("set", "frozenset"), (name, node.lineno))

    def test_keywords(self):
        for name, node in nodes(ast.Call):
            for keyword in node.keywords:
                self.assertIn(keyword.arg, KEYWORDS.get(called(node), ()), (name, node.lineno))

    def test_no_sign_of_remainder_in_a_text(self):
        for name, node in nodes(ast.Constant):
            if isinstance(node.value, str):
                self.assertNotIn("%", node.value, (name, node.lineno))

    def test_no_power(self):
        self.assertEqual(nodes(ast.Pow), [])

    def test_the_top_keeps_plain_values(self):
        for path, tree in trees():
            for node in tree.body:
                if isinstance(node, ast.Assign):
                    for part in ast.walk(node.value):
                        self.assertIsInstance(part, (ast.Constant, ast.Tuple, ast.UnaryOp, ast.USub, ast.Load),
                                              (path.name, node.lineno))

    def test_no_name_is_a_method_and_a_value(self):
        methods = {part.name for name, node in nodes(ast.ClassDef) for part in node.body
                   if isinstance(part, ast.FunctionDef)}
        kept = {node.attr for name, node in nodes(ast.Attribute) if isinstance(node.ctx, ast.Store)}
        self.assertEqual(methods & kept, set())
        for word in kept:
            for own in ("", 0, [], {}, set(), b""):
                self.assertFalse(hasattr(own, word), word)


class Imports(unittest.TestCase):
    def drawn(self, tree):
        return [node.module for node in ast.walk(tree) if isinstance(node, ast.ImportFrom)]

    def test_from_the_file_that_defines_it(self):
        defined = {f"roadsclosed.{path.stem}": tree for path, tree in trees()}
        for name, node in nodes(ast.ImportFrom):
            self.assertEqual((node.level, node.col_offset), (0, 0), (name, node.lineno))
            self.assertIn(node.module, defined, (name, node.lineno))
            own = [part.name if hasattr(part, "name") else part.targets[0].id for part in defined[node.module].body
                   if isinstance(part, (ast.FunctionDef, ast.ClassDef, ast.Assign))]
            for alias in node.names:
                self.assertIn(alias.name, own, (name, node.lineno))
                self.assertIsNone(alias.asname)

    def test_no_two_draw_from_one_another(self):
        left = {f"roadsclosed.{path.stem}": self.drawn(tree) for path, tree in trees()}
        while left:
            ready = [name for name in left if not any(other in left for other in left[name])]
            self.assertNotEqual(ready, [], sorted(left))
            left = {name: left[name] for name in left if name not in ready}


if __name__ == "__main__":
    unittest.main()

"""The package keeps to the part of Python that LANGUAGE.md tells, as far as a walk through its files can see."""

import ast
import builtins
import pathlib
import re
import unittest

import leaststates

PACKAGE = pathlib.Path(leaststates.__file__).parent
BUILTINS = set(
    "len range enumerate zip min max sum abs sorted reversed int str bool list tuple dict set frozenset isinstance ord"
    " repr any all divmod Exception ValueError TypeError KeyError IndexError LookupError ZeroDivisionError"
    " ArithmeticError OverflowError RuntimeError NotImplementedError AttributeError StopIteration".split()
)
METHODS = set(
    "append clear copy count endswith extend find get index insert isalnum isalpha isdigit islower isspace isupper"
    " items join keys ljust lower lstrip partition pop remove replace reverse rfind rjust rpartition rsplit rstrip"
    " setdefault split splitlines startswith strip update upper values zfill bit_length".split()
)
UNDERSCORED = {"__init__", "__eq__", "__repr__", "__str__", "__len__"}
UNUSED_NAMES = set(
    "register mro elements open input version_info with_traceback add_note attrgetter breakpoint builtins compile"
    " copyright credits delattr dir eval exec exit gc getattr globals hasattr help id importlib license locals"
    " methodcaller os quit setattr super vars sys format format_map".split()
)
UNUSED_WORDS = re.compile(
    r"\b(type|typing|typing_extensions|enum|Enum|IntEnum|StrEnum|Flag|IntFlag|Generic|Protocol|ABC|ABCMeta|namedtuple"
    r"|NamedTuple|TypedDict|TYPE_CHECKING|abstractmethod)\b|dataclass|overload|contextmanager"
)
UNUSED_FORMS = (
    ast.With, ast.Match, ast.Delete, ast.Global, ast.Nonlocal, ast.Assert, ast.Yield, ast.YieldFrom, ast.Await,
    ast.AsyncFunctionDef, ast.AsyncFor, ast.AsyncWith, ast.SetComp, ast.DictComp, ast.GeneratorExp, ast.NamedExpr,
    ast.Starred, ast.Div, ast.Import, ast.TryStar, ast.Set, ast.AnnAssign, ast.MatMult,
)


def files():
    return sorted(path for path in PACKAGE.iterdir() if path.name != "__pycache__")


def nodes():
    for path in files():
        for node in ast.walk(ast.parse(path.read_text())):
            yield path.name, node


def nodes_below():
    """Each node with those above it, the nearest last."""
    for path in files():
        waiting = [(ast.parse(path.read_text()), [])]
        while waiting:
            node, above = waiting.pop()
            yield path.name, node, above
            waiting += [(part, above + [node]) for part in ast.iter_child_nodes(node)]


def own_call(node):
    """The name by which a function is called here; None if none is."""
    return node.func.id if isinstance(node, ast.Call) and isinstance(node.func, ast.Name) else None


class Files(unittest.TestCase):
    def test_plain_names(self):
        for path in files():
            self.assertRegex(path.name, r"^([a-z][a-z0-9_]*|__init__)\.py$")

    def test_plain_signs_and_sizes(self):
        for path in files():
            text = path.read_bytes().decode("ascii")
            self.assertRegex(text, r"\A[ -~\n]*\Z", path.name)
            lines = text.split("\n")
            self.assertLessEqual(len(lines), 400, path.name)
            self.assertLessEqual(max(len(line) for line in lines), 120, path.name)

    def test_unused_words(self):
        for path in files():
            self.assertIsNone(UNUSED_WORDS.search(path.read_text()), path.name)


class Forms(unittest.TestCase):
    def test_unused_forms(self):
        for name, node in nodes():
            self.assertNotIsInstance(node, UNUSED_FORMS, name)
            if isinstance(node, (ast.For, ast.While)):
                self.assertEqual(node.orelse, [], name)
            if isinstance(node, ast.Assign):
                self.assertEqual(len(node.targets), 1, name)
            if isinstance(node, ast.ListComp):
                self.assertEqual(len(node.generators), 1, name)
                self.assertLessEqual(len(node.generators[0].ifs), 1, name)
            if isinstance(node, ast.Constant):
                self.assertIn(type(node.value), (int, str, bool, type(None)), name)

    def test_plain_functions_and_classes(self):
        for name, node in nodes():
            if isinstance(node, ast.FunctionDef):
                self.assertLessEqual(node.end_lineno - node.lineno + 1, 40, node.name)
                self.assertIsNone(node.args.vararg, node.name)
                self.assertIsNone(node.args.kwarg, node.name)
                self.assertEqual(node.args.kwonlyargs + node.args.posonlyargs, [], node.name)
            if isinstance(node, (ast.FunctionDef, ast.ClassDef)):
                self.assertEqual(node.decorator_list, [], node.name)

    def test_imports_are_the_packages_own(self):
        for name, node in nodes():
            if isinstance(node, ast.ImportFrom):
                self.assertEqual(node.level, 0, name)
                self.assertTrue(node.module.startswith("leaststates."), name)

    def test_the_top_of_a_file(self):
        for path in files():
            tree = ast.parse(path.read_text())
            self.assertIsNotNone(ast.get_docstring(tree), path.name)
            for node in tree.body[1:]:
                self.assertIsInstance(node, (ast.ImportFrom, ast.FunctionDef, ast.ClassDef, ast.Assign), path.name)


    def test_is_beside_none_true_and_false_alone(self):
        for name, node in nodes():
            if isinstance(node, ast.Compare) and any(isinstance(op, (ast.Is, ast.IsNot)) for op in node.ops):
                self.assertIsInstance(node.comparators[0], ast.Constant, name)

    def test_sets_are_sorted_on_the_spot(self):
        for name, node, above in nodes_below():
            if own_call(node) == "set":
                while isinstance(above[-1], ast.BinOp):
                    above = above[:-1]
                self.assertEqual(own_call(above[-1]), "sorted", name)

    def test_what_is_walked_at_once(self):
        for name, node, above in nodes_below():
            if own_call(node) in ("range", "reversed", "enumerate", "zip"):
                walked = isinstance(above[-1], (ast.For, ast.comprehension)) and above[-1].iter is node
                self.assertTrue(walked or own_call(above[-1]) in ("list", "tuple", "sorted", "sum"), name)

    def test_no_files_draw_from_one_another(self):
        drawn = {path.stem: set() for path in files()}
        for name, node in nodes():
            if isinstance(node, ast.ImportFrom):
                drawn[name[:-3]].add(node.module.split(".")[1])
        while drawn:
            free = [name for name in drawn if not drawn[name] & set(drawn)]
            self.assertNotEqual(free, [], drawn)
            drawn = {name: drawn[name] for name in drawn if name not in free}

    def test_no_function_calls_itself(self):
        calls = {}
        for name, node in nodes():
            if isinstance(node, ast.FunctionDef):
                named = [part.func for part in ast.walk(node) if isinstance(part, ast.Call)]
                calls[node.name] = {getattr(func, "id", getattr(func, "attr", None)) for func in named}
        for first in calls:
            reached = set(calls[first])
            while not reached >= (further := set().union(*[calls.get(name, ()) for name in reached])):
                reached |= further
            self.assertNotIn(first, reached)


class Names(unittest.TestCase):
    def test_each_name_of_a_file_s_top_once_and_no_local_like_it(self):
        for path in files():
            tree = ast.parse(path.read_text())
            top = [node.name for node in tree.body if isinstance(node, (ast.FunctionDef, ast.ClassDef))]
            top += [node.targets[0].id for node in tree.body if isinstance(node, ast.Assign)]
            top += [part.name for node in tree.body if isinstance(node, ast.ImportFrom) for part in node.names]
            self.assertEqual(len(top), len(set(top)), path.name)
            for part in [part for node in tree.body if not isinstance(node, ast.Assign) for part in ast.walk(node)]:
                if isinstance(part, ast.arg):
                    self.assertNotIn(part.arg, top, path.name)
                if isinstance(part, ast.Name) and isinstance(part.ctx, ast.Store):
                    self.assertNotIn(part.id, top, path.name)

    def test_python_s_own(self):
        for name, node in nodes():
            if isinstance(node, ast.Name) and hasattr(builtins, node.id):
                self.assertIn(node.id, BUILTINS, name)
                self.assertIsInstance(node.ctx, ast.Load, name)
            if isinstance(node, ast.arg):
                self.assertFalse(hasattr(builtins, node.arg), node.arg)

    def test_methods(self):
        own = {node.name for name, node in nodes() if isinstance(node, ast.FunctionDef)}
        for name, node in nodes():
            if isinstance(node, ast.Call) and isinstance(node.func, ast.Attribute):
                self.assertIn(node.func.attr, METHODS | own, name)

    def test_plain_and_used(self):
        for name, node in nodes():
            for told in ("id", "attr", "arg", "name"):
                word = getattr(node, told, None)
                if isinstance(word, str) and word not in UNDERSCORED:
                    self.assertRegex(word, r"^[A-Za-z][A-Za-z0-9_]*(\.[a-z0-9_]+)*$", name)
                    self.assertNotIn(word, UNUSED_NAMES, name)


if __name__ == "__main__":
    unittest.main()

"""The rules of the language subset that a look at the syntax can test; L.. are their numbers."""

import ast
import builtins
import pathlib
import re
import unittest

PACKAGE = pathlib.Path(__file__).resolve().parent.parent / "factsandfar"
FILES = sorted(PACKAGE.glob("*.py"))
ALLOWED_BUILTINS = set(
    "len range enumerate zip min max sum abs sorted reversed int str bool bytes list tuple dict set frozenset isinstance ord repr "
    "any all divmod Exception ValueError TypeError KeyError IndexError LookupError ZeroDivisionError ArithmeticError OverflowError "
    "RuntimeError NotImplementedError iter next True False None".split())
METHODS = set(
    "append clear copy count endswith extend find get index insert isalnum isalpha isdigit islower isspace isupper items join keys "
    "ljust lower lstrip partition pop remove replace reverse rfind rjust rpartition rsplit rstrip setdefault split splitlines "
    "startswith strip update upper values zfill bit_length add discard".split())
BARRED_NAMES = set("register mro elements open input law version_info with_traceback add_note".split())
BARRED_WORDS = (r"\b(type|typing|typing_extensions|enum|Enum|IntEnum|StrEnum|Flag|IntFlag|Generic|Protocol|ABC|ABCMeta|namedtuple|"
                r"NamedTuple|TypedDict|TYPE_CHECKING|abstractmethod)\b|dataclass|overload|contextmanager")
BARRED_NODES = (ast.Global, ast.AsyncFunctionDef, ast.AsyncFor, ast.AsyncWith, ast.Await, ast.Div, ast.MatMult, ast.Lambda,
                ast.GeneratorExp, ast.SetComp, ast.Match, ast.With, ast.NamedExpr, ast.Starred, ast.Import, ast.AnnAssign)


def bound_names(tree):
    """Every name that the tree gives a meaning, with its node."""
    for node in ast.walk(tree):
        if isinstance(node, (ast.FunctionDef, ast.ClassDef)):
            yield node.name, node
        elif isinstance(node, ast.arg):
            yield node.arg, node
        elif isinstance(node, ast.Name) and isinstance(node.ctx, ast.Store):
            yield node.id, node
        elif isinstance(node, ast.alias):
            yield node.asname or node.name, node


def local_names(function):
    for name, node in bound_names(function):
        if node is not function:
            yield name


class Language(unittest.TestCase):
    def setUp(self):
        self.texts = {path.stem: path.read_text(encoding="utf-8") for path in FILES}
        self.trees = {stem: ast.parse(text) for stem, text in self.texts.items()}
        self.methods = {inner.name for tree in self.trees.values() for node in tree.body if isinstance(node, ast.ClassDef)
                        for inner in node.body if isinstance(inner, ast.FunctionDef)}

    def nodes(self):
        for stem, tree in self.trees.items():
            for node in ast.walk(tree):
                yield f"{stem}:{getattr(node, 'lineno', '?')}", node

    def test_files(self):
        """L1, L14"""
        for path in PACKAGE.iterdir():
            self.assertTrue(path.name == "__pycache__" or re.fullmatch(r"(__init__|[a-z][a-z0-9_]*)\.py", path.name), path)
        self.assertIn("__init__", self.trees)

    def test_characters_and_sizes(self):
        """L10, L14, L17"""
        for stem, text in self.texts.items():
            self.assertTrue(re.fullmatch(r"[ -~\n]*", text), stem)
            lines = text.split("\n")
            self.assertLessEqual(len(lines), 399, stem)
            for line in lines:
                self.assertLessEqual(len(line), 120, line)
                self.assertIsNone(re.search(BARRED_WORDS, line), line)
        for place, node in self.nodes():
            if isinstance(node, ast.FunctionDef):
                self.assertLessEqual(node.end_lineno - node.lineno + 1, 40, place)

    def test_imports(self):
        """L2, L16"""
        after = {stem: set() for stem in self.trees}
        for stem, tree in self.trees.items():
            for node in ast.walk(tree):
                if isinstance(node, ast.ImportFrom):
                    self.assertIn(node, tree.body)
                    package, module = node.module.split(".")
                    self.assertEqual((package, node.level), ("factsandfar", 0))
                    defined = [name for inner in self.trees[module].body if not isinstance(inner, ast.ImportFrom)
                               for name, bound in bound_names(inner)]
                    for alias in node.names:
                        self.assertIn(alias.name, defined)
                        self.assertIsNone(alias.asname)
                        uses = [found for found in ast.walk(tree) if isinstance(found, ast.Name) and found.id == alias.name]
                        self.assertTrue(uses, f"{stem} does not use {alias.name}")
                    after[stem].add(module)
        for turn in after:
            for stem in after:
                after[stem] |= {far for near in after[stem] for far in after[near]}
        for stem in after:
            self.assertNotIn(stem, after[stem])

    def test_module_level(self):
        """L3, L15"""
        for stem, tree in self.trees.items():
            bound = []
            for position, node in enumerate(tree.body):
                docstring = isinstance(node, ast.Expr) and position == 0
                self.assertTrue(docstring or isinstance(node, (ast.ImportFrom, ast.FunctionDef, ast.ClassDef, ast.Assign)), stem)
                if isinstance(node, ast.Assign):
                    self.assertEqual([type(target) for target in node.targets], [ast.Name])
                    self.assertTrue(self.is_plain(node.value, bound), node.targets[0].id)
                    bound.append(node.targets[0].id)
                elif isinstance(node, ast.ImportFrom):
                    bound += [alias.name for alias in node.names]
                elif not docstring:
                    bound.append(node.name)
            self.assertEqual(len(set(bound)), len(bound), stem)

    def is_plain(self, node, above):
        """A constant, a tuple of such, or a dict from strings to functions defined above."""
        if isinstance(node, ast.Dict):
            return all(isinstance(key, ast.Constant) for key in node.keys) and all(getattr(value, "id", None) in above for value in node.values)
        return {type(part) for part in ast.walk(node)} <= {ast.Constant, ast.Tuple, ast.Load}

    def test_names(self):
        """L8, L12, L15, L17"""
        for stem, tree in self.trees.items():
            for name, node in bound_names(tree):
                if isinstance(node, ast.FunctionDef) and name in ("__init__", "__eq__", "__len__"):
                    self.assertNotIn(node, tree.body)
                    continue
                self.assertFalse(name.startswith("_"), name)
                self.assertFalse(hasattr(builtins, name), name)
                self.assertNotIn(name, BARRED_NAMES)
            bound = {name for name, node in bound_names(tree)}
            for node in ast.walk(tree):
                if isinstance(node, ast.Name) and hasattr(builtins, node.id):
                    self.assertIn(node.id, ALLOWED_BUILTINS)
                elif isinstance(node, ast.Name):
                    self.assertIn(node.id, bound)

    def test_local_names(self):
        """L15: no local name has the name of a class, a function or an import of its file."""
        for stem, tree in self.trees.items():
            outer = {name for node in tree.body if isinstance(node, (ast.ImportFrom, ast.ClassDef, ast.FunctionDef, ast.Assign))
                     for name, bound in bound_names(node) if bound is node or isinstance(bound, ast.alias) or isinstance(node, ast.Assign)}
            for node in ast.walk(tree):
                if isinstance(node, ast.FunctionDef):
                    self.assertEqual(outer & set(local_names(node)), set(), f"{stem}.{node.name}")

    def test_statements_and_expressions(self):
        """L4, L6, L7, L20, L24, L25, L27; what no module needs is barred altogether."""
        for place, node in self.nodes():
            self.assertNotIsInstance(node, BARRED_NODES, place)
            if isinstance(node, ast.Constant):
                self.assertNotIsInstance(node.value, (float, complex, bytes), place)
                self.assertFalse(isinstance(node.value, str) and "%" in node.value, place)
            if isinstance(node, (ast.FunctionDef, ast.ClassDef)):
                self.assertEqual(node.decorator_list, [], place)
            if isinstance(node, ast.FunctionDef):
                self.assertEqual((node.args.posonlyargs, node.args.vararg, node.args.kwarg), ([], None, None), place)
            if isinstance(node, ast.Compare) and any(isinstance(sign, (ast.Is, ast.IsNot)) for sign in node.ops):
                self.assertTrue(all(isinstance(part, ast.Constant) for part in node.comparators), place)
            if isinstance(node, ast.Call) and isinstance(node.func, ast.Attribute):
                self.assertIn(node.func.attr, METHODS | self.methods, place)

    def test_attributes(self):
        """L18, L26"""
        assigned = {node.attr for place, node in self.nodes() if isinstance(node, ast.Attribute) and isinstance(node.ctx, ast.Store)}
        self.assertEqual(assigned & self.methods, set())
        called = {id(node.func) for place, node in self.nodes() if isinstance(node, ast.Call)}
        for place, node in self.nodes():
            if isinstance(node, ast.Attribute) and isinstance(node.ctx, ast.Load) and id(node) not in called:
                self.assertIn(node.attr, assigned, place)

    def test_raise(self):
        """L19: an error is created where it is raised."""
        classes = {node.name for tree in self.trees.values() for node in tree.body if isinstance(node, ast.ClassDef)}
        for place, node in self.nodes():
            if isinstance(node, ast.Raise):
                self.assertIsInstance(node.exc, ast.Call, place)
                self.assertIn(node.exc.func.id, classes, place)

    def test_caught(self):
        """L19: only own errors are caught, by their names, and nothing is done with them."""
        errors = {node.name for node in self.trees["errors"].body if isinstance(node, ast.ClassDef)}
        for place, node in self.nodes():
            if isinstance(node, ast.Try):
                self.assertEqual((node.orelse, node.finalbody), ([], []), place)
                for handler in node.handlers:
                    named = handler.type.elts if isinstance(handler.type, ast.Tuple) else [handler.type]
                    self.assertLessEqual({name.id for name in named}, errors, place)
                    self.assertIsNone(handler.name, place)

    def test_double_underscore_methods(self):
        """L28"""
        for place, node in self.nodes():
            if isinstance(node, ast.FunctionDef) and node.name in ("__eq__", "__len__"):
                self.assertEqual([type(inner) for inner in node.body], [ast.Return], place)
                if node.name == "__len__":
                    self.assertEqual(getattr(node.body[0].value.func, "id", None), "len", place)

    def test_iterated_at_once(self):
        """L23: the result of these calls is not stored."""
        for place, node in self.nodes():
            if isinstance(node, (ast.Assign, ast.Return)) and isinstance(node.value, ast.Call):
                name = getattr(node.value.func, "id", getattr(node.value.func, "attr", ""))
                self.assertNotIn(name, ("zip", "enumerate", "reversed", "range", "items", "keys", "values", "iter"), place)


if __name__ == "__main__":
    unittest.main()

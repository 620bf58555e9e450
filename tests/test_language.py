"""The package's files keep to the part of Python that they are to be written in, as far as a look at them tells."""

import ast
import builtins
import pathlib
import re
import unittest

PACKAGE = pathlib.Path(__file__).resolve().parent.parent / "changeditself"
NODES = set("""
    Module Expr Constant ImportFrom alias FunctionDef arguments arg ClassDef Assign AugAssign If While For Return Break
    Continue Pass Raise Try ExceptHandler Name Attribute Subscript Slice List Tuple Dict Call keyword BinOp UnaryOp
    BoolOp Compare IfExp ListComp comprehension Lambda JoinedStr FormattedValue Load Store Add Sub Mult FloorDiv Mod
    Pow BitAnd BitOr BitXor LShift RShift Invert USub UAdd And Or Not Eq NotEq Lt LtE Gt GtE Is IsNot In NotIn
""".split())
BUILTINS = set("""
    len range enumerate zip min max sum abs sorted reversed int str bool list tuple dict set isinstance ord repr any
    all divmod Exception ValueError KeyError IndexError LookupError ZeroDivisionError StopIteration
""".split())
METHODS = set("""
    append clear copy count endswith extend find get index insert isalnum isalpha isdigit islower isspace isupper items
    join keys ljust lower lstrip partition pop remove replace reverse rfind rjust rpartition rsplit rstrip setdefault
    split splitlines startswith strip update upper values zfill bit_length
""".split())
NOT_SAID = re.compile(r"\b(type|typing|typing_extensions|enum|Enum|IntEnum|StrEnum|Flag|IntFlag|Generic|Protocol|ABC|"
                      r"ABCMeta|namedtuple|NamedTuple|TypedDict|TYPE_CHECKING|abstractmethod)\b|"
                      r"dataclass|overload|contextmanager")
WALKED = {"range", "enumerate", "zip", "reversed", "items", "keys", "values"}
WALKERS = {"list", "tuple", "dict", "sorted", "sum", "any", "all", "enumerate", "zip", "min", "max"}
NOT_NAMED = set("""
    register mro elements open input version_info with_traceback add_note attrgetter breakpoint builtins compile
    copyright credits delattr dir eval exec exit gc getattr globals hasattr help id importlib license locals
    methodcaller os quit setattr super vars sys format format_map chr
""".split())
PYTHONS_OWN = {name for kind in (str, int, list, dict, set, bytes, tuple) for name in vars(kind)}


def nodes(tree, *kinds):
    return [node for node in ast.walk(tree) if isinstance(node, kinds)]


def top_names(tree):
    names = [node.name for node in tree.body if isinstance(node, (ast.FunctionDef, ast.ClassDef))]
    return names + [target.id for node in tree.body if isinstance(node, ast.Assign) for target in node.targets]


def imported(tree):
    return [(node.module, name.name) for node in nodes(tree, ast.ImportFrom) for name in node.names]


class LanguageTest(unittest.TestCase):
    def setUp(self):
        self.texts = {path.stem: path.read_text("utf-8") for path in sorted(PACKAGE.glob("*.py"))}
        self.trees = {stem: ast.parse(text) for stem, text in self.texts.items()}

    def test_files(self):
        inside = [path.name for path in PACKAGE.iterdir() if path.name != "__pycache__"]
        self.assertIn("__init__.py", inside)
        for name in inside:
            self.assertRegex(name, r"^(__init__|[a-z][a-z0-9_]*)\.py$")
            self.assertNotIn(name[:-3], dir(builtins))

    def test_signs_and_size(self):
        for stem, text in self.texts.items():
            self.assertRegex(text, r"\A[ -~\n]*\Z", stem)
            self.assertLessEqual(len(text.splitlines()), 399, stem)
            self.assertLessEqual(max(len(line) for line in text.splitlines()), 120, stem)
            self.assertIsNone(NOT_SAID.search(text), stem)
            for node in nodes(self.trees[stem], ast.FunctionDef):
                self.assertLessEqual(node.end_lineno - node.lineno + 1, 40, f"{stem}.{node.name}")

    def test_statements_and_expressions(self):
        for stem, tree in self.trees.items():
            for node in ast.walk(tree):
                kind = node.__class__.__name__
                self.assertIn(kind, NODES, f"{stem}, line {getattr(node, 'lineno', 0)}")
                if isinstance(node, ast.Constant):
                    self.assertIn(node.value.__class__, (int, str, bool, type(None)))
                if isinstance(node, ast.Assign):
                    self.assertEqual(len(node.targets), 1)
                if isinstance(node, (ast.For, ast.While)):
                    self.assertEqual(node.orelse, [])
                if isinstance(node, ast.ListComp):
                    self.assertEqual(len(node.generators), 1)

    def test_functions_are_plain(self):
        for tree in self.trees.values():
            for node in nodes(tree, ast.FunctionDef):
                given = node.args
                self.assertFalse(node.decorator_list or given.vararg or given.kwarg or given.kwonlyargs)

    def test_names(self):
        for stem, tree in self.trees.items():
            stored = [node.id for node in nodes(tree, ast.Name) if isinstance(node.ctx, ast.Store)]
            given = [node.arg for node in nodes(tree, ast.arg)]
            tops = top_names(tree)
            self.assertEqual(len(tops), len(set(tops)), stem)
            defined = [name for name in tops if name not in stored] + [name for module, name in imported(tree)]
            for name in stored + given:
                self.assertRegex(name, r"^[A-Za-z][A-Za-z0-9_]*$", stem)
                self.assertNotIn(name, dir(builtins), stem)
                self.assertNotIn(name, defined, stem)
            for node in nodes(tree, ast.Name):
                if isinstance(node.ctx, ast.Load) and node.id not in stored + given + defined:
                    self.assertIn(node.id, BUILTINS, f"{stem}, line {node.lineno}")

    def test_methods_and_values(self):
        for stem, tree in self.trees.items():
            called = [node.func for node in nodes(tree, ast.Call) if isinstance(node.func, ast.Attribute)]
            for node in called:
                self.assertIn(node.attr, METHODS, f"{stem}, line {node.lineno}")
            for node in nodes(tree, ast.Attribute):
                if node not in called:
                    self.assertNotIn(node.attr, PYTHONS_OWN, f"{stem}, line {node.lineno}")

    def test_names_that_are_not_used(self):
        for stem, tree in self.trees.items():
            said = [node.id for node in nodes(tree, ast.Name)] + [node.attr for node in nodes(tree, ast.Attribute)]
            said += [node.arg for node in nodes(tree, ast.arg)]
            said += [node.name for node in nodes(tree, ast.FunctionDef, ast.ClassDef)]
            self.assertEqual(set(said) & NOT_NAMED, set(), stem)

    def test_what_is_walked_is_walked_on_the_spot(self):
        for stem, tree in self.trees.items():
            walked = [node.iter for node in nodes(tree, ast.For, ast.comprehension)]
            for node in nodes(tree, ast.Call):
                if getattr(node.func, "id", "") in WALKERS:
                    walked += node.args[:1]
            for node in nodes(tree, ast.Call):
                if getattr(node.func, "id", getattr(node.func, "attr", "")) in WALKED:
                    self.assertIn(node, walked, f"{stem}, line {node.lineno}")

    def test_is_and_annotations_and_sets(self):
        for stem, tree in self.trees.items():
            for node in nodes(tree, ast.Compare):
                if any(isinstance(op, (ast.Is, ast.IsNot)) for op in node.ops):
                    self.assertIn(ast.unparse(node.comparators[-1]), ("None", "True", "False"), stem)
            for node in nodes(tree, ast.FunctionDef, ast.arg):
                self.assertIsNone(getattr(node, "returns", getattr(node, "annotation", None)), stem)
            for node in nodes(tree, ast.Name):
                self.assertNotIn(node.id, ("set", "frozenset"), f"{stem}, line {node.lineno}")

    def test_classes_are_plain(self):
        for stem, tree in self.trees.items():
            for node in nodes(tree, ast.ClassDef):
                self.assertIn(node, tree.body)
                self.assertEqual((node.decorator_list, node.bases, node.keywords), ([], [], []))
                defs = [inner for inner in node.body if not isinstance(inner, ast.Expr)]
                self.assertEqual([inner.name for inner in defs], ["__init__"], stem)
                self.assertEqual(nodes(defs[0], ast.Return), [])

    def test_every_import_is_used(self):
        for stem, tree in self.trees.items():
            used = [node.id for node in nodes(tree, ast.Name)]
            for module, name in imported(tree):
                self.assertIn(name, used, stem)

    def test_imports(self):
        drawn = {}
        for stem, tree in self.trees.items():
            drawn[stem] = []
            for module, name in imported(tree):
                self.assertTrue(module.startswith("changeditself."), f"{stem}: {module}")
                source = module.partition(".")[2]
                self.assertIn(name, top_names(self.trees[source]), f"{stem}: {module}")
                drawn[stem].append(source)
        while drawn:
            free = [stem for stem in drawn if not set(drawn[stem]) & set(drawn)]
            self.assertTrue(free, f"files that draw from one another: {sorted(drawn)}")
            drawn = {stem: sources for stem, sources in drawn.items() if stem not in free}

    def test_the_interface(self):
        found = [(stem, node) for stem, tree in self.trees.items() for node in tree.body
                 if isinstance(node, (ast.FunctionDef, ast.ClassDef)) and node.name == "answers"]
        self.assertEqual([stem for stem, node in found], ["helper"])
        self.assertEqual([arg.arg for arg in found[0][1].args.args], ["calls"])
        self.assertEqual(found[0][1].args.defaults, [])

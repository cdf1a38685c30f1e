"""The package keeps to the small part of Python that its language rules tell: what can be seen from its files."""

import ast
import builtins
import keyword
import os
import re
import unittest

import backwardrun

FOLDER = os.path.dirname(os.path.abspath(backwardrun.__file__))

NODES = """
Module Expr Constant ImportFrom alias FunctionDef arguments arg ClassDef Return Assign AugAssign For
While If Raise Try ExceptHandler Pass Break Continue Name Load Store Attribute Subscript Slice List
Tuple Dict ListComp comprehension Call BinOp UnaryOp BoolOp Compare IfExp Lambda JoinedStr
FormattedValue keyword Add Sub Mult FloorDiv Mod Pow BitAnd BitOr BitXor LShift RShift Invert USub
UAdd Not And Or Eq NotEq Lt LtE Gt GtE Is IsNot In NotIn
""".split()

BUILT_IN = """
len range enumerate zip min max sum abs sorted reversed int str bool list tuple dict set frozenset
isinstance ord repr any all divmod Exception ValueError KeyError IndexError LookupError
ZeroDivisionError StopIteration
""".split()

METHODS = """
append clear copy count endswith extend find get index insert isalnum isalpha isdigit islower
isspace isupper items join keys ljust lower lstrip partition pop remove replace reverse rfind rjust
rpartition rsplit rstrip setdefault split splitlines startswith strip update upper values zfill
bit_length
""".split()

NEVER_NAMES = """
register mro elements open input version_info with_traceback add_note format format_map attrgetter
breakpoint builtins compile copyright credits delattr dir eval exec exit gc getattr globals hasattr
help id importlib license locals methodcaller os quit setattr super vars sys
""".split()

NEVER_WORDS = """
type typing typing_extensions enum Enum IntEnum StrEnum Flag IntFlag Generic Protocol ABC ABCMeta
namedtuple NamedTuple TypedDict TYPE_CHECKING abstractmethod
""".split()

WALKED = ["zip", "enumerate", "reversed", "range", "items", "keys", "values"]
WALKERS = ["list", "tuple", "dict", "sorted", "sum", "any", "all", "enumerate", "zip", "min", "max"]

NEVER_FILES = ["test", "tests", "testing", "site", "conftest", "sitecustomize", "usercustomize"]


def package_files():
    """Name and text of each file of the package; what Python itself leaves there doesn't count."""
    names = sorted(name for name in os.listdir(FOLDER) if name != "__pycache__")
    texts = {}
    for name in names:
        with open(os.path.join(FOLDER, name), encoding="utf-8", newline="") as file:
            texts[name] = file.read()
    return texts


class Language(unittest.TestCase):
    def setUp(self):
        self.texts = package_files()
        self.trees = {name: ast.parse(text) for name, text in self.texts.items()}

    def nodes(self, *kinds):
        for name, tree in self.trees.items():
            for node in ast.walk(tree):
                if isinstance(node, kinds or ast.AST):
                    yield f"{name}:{getattr(node, 'lineno', 0)}", node

    def test_files(self):
        self.assertIn("__init__.py", self.texts)
        for name in self.texts:
            self.assertRegex(name, r"\A([a-z][a-z0-9_]*|__init__)\.py\Z")
            stem = name[:-3]
            self.assertNotIn(stem, NEVER_FILES + NEVER_WORDS + dir(builtins))
            self.assertFalse(stem.startswith("test_") or keyword.iskeyword(stem), name)

    def test_signs_and_size(self):
        for name, text in self.texts.items():
            self.assertRegex(text, r"\A[ -~\n]*\Z", name)
            lines = text.split("\n")
            self.assertLessEqual(len(lines), 399, name)
            self.assertLessEqual(max(len(line) for line in lines), 120, name)
        for where, node in self.nodes(ast.FunctionDef):
            self.assertLessEqual(node.end_lineno - node.lineno + 1, 40, where)

    def test_words(self):
        for name, text in self.texts.items():
            self.assertEqual(set(re.findall(r"\w+", text)) & set(NEVER_WORDS), set(), name)
            self.assertNotRegex(text, "dataclass|overload|contextmanager", name)

    def test_nodes(self):
        for where, node in self.nodes():
            self.assertIn(node.__class__.__name__, NODES, where)

    def test_imports_stand_at_the_top_and_are_the_package_s_own(self):
        for where, node in self.nodes(ast.ImportFrom):
            self.assertEqual(node.level, 0, where)
            self.assertIn(node.module.removeprefix("backwardrun.") + ".py", self.texts, where)
            self.assertTrue(all(each.name != "*" and each.asname is None for each in node.names), where)
            self.assertEqual(node.col_offset, 0, where)

    def test_top_of_a_module(self):
        for name, tree in self.trees.items():
            bound = []
            for node in tree.body[1:]:
                self.assertIsInstance(node, (ast.ImportFrom, ast.FunctionDef, ast.ClassDef, ast.Assign), name)
                if isinstance(node, ast.Assign):
                    bound.append(node.targets[0].id)
                elif isinstance(node, ast.ImportFrom):
                    bound.extend(each.name for each in node.names)
                else:
                    bound.append(node.name)
            self.assertEqual(len(bound), len(set(bound)), name)
            self.assertIsNotNone(ast.get_docstring(tree), name)

    def test_functions_and_classes(self):
        for where, node in self.nodes(ast.FunctionDef):
            self.assertEqual(node.decorator_list, [], where)
            told = node.args
            self.assertEqual((told.vararg, told.kwarg, told.kwonlyargs, told.posonlyargs), (None, None, [], []), where)
        for where, node in self.nodes(ast.ClassDef):
            self.assertEqual((node.decorator_list, node.keywords), ([], []), where)
            self.assertLessEqual(len(node.bases), 1, where)

    def test_assignments_have_one_target(self):
        for where, node in self.nodes(ast.Assign):
            self.assertEqual(len(node.targets), 1, where)
            self.assertIsInstance(node.targets[0], (ast.Name, ast.Attribute, ast.Subscript), where)
        for where, node in self.nodes(ast.For, ast.While, ast.Try):
            self.assertEqual(getattr(node, "finalbody", []), [], where)
            if not isinstance(node, ast.Try):
                self.assertEqual(node.orelse, [], where)

    def test_names(self):
        for where, node in self.nodes(ast.Name, ast.arg, ast.FunctionDef, ast.ClassDef, ast.Attribute):
            name = next(getattr(node, each) for each in ("id", "arg", "name", "attr") if hasattr(node, each))
            self.assertNotIn(name, NEVER_NAMES, where)
            if name != "__init__":
                self.assertRegex(name, r"\A[A-Za-z][A-Za-z0-9_]*\Z", where)
            if isinstance(node, ast.Name) and name in dir(builtins):
                self.assertIn(name, BUILT_IN, where)
                self.assertIsInstance(node.ctx, ast.Load, where)
            if isinstance(node, (ast.arg, ast.ClassDef)):
                self.assertNotIn(name, dir(builtins), where)

    def test_methods_and_values(self):
        methods = {node.name for where, each in self.nodes(ast.ClassDef) for node in each.body
                   if isinstance(node, ast.FunctionDef)}
        values = {node.attr for where, node in self.nodes(ast.Attribute) if isinstance(node.ctx, ast.Store)}
        self.assertEqual(methods & values, set())
        of_python = {name for kind in (str, int, list, dict, set, bytes) for name in dir(kind)}
        self.assertEqual((methods | values) & (of_python - {"__init__"}), set())
        for where, node in self.nodes(ast.Attribute):
            self.assertIn(node.attr, methods | values | set(METHODS), where)

    def test_walked_at_once(self):
        walked = set()
        for where, node in self.nodes(ast.For, ast.comprehension):
            walked.add(node.iter)
        for where, node in self.nodes(ast.Call):
            if isinstance(node.func, ast.Name) and node.func.id in WALKERS:
                walked.update(node.args)
        for where, node in self.nodes(ast.Call):
            if getattr(node.func, "id", getattr(node.func, "attr", "")) in WALKED:
                self.assertIn(node, walked, where)

    def test_no_files_draw_from_one_another(self):
        drawn = {name: [node.module.removeprefix("backwardrun.") + ".py" for node in ast.walk(tree)
                        if isinstance(node, ast.ImportFrom)] for name, tree in self.trees.items()}
        while drawn:
            free = [name for name, others in drawn.items() if not [other for other in others if other in drawn]]
            self.assertNotEqual(free, [], drawn)
            drawn = {name: others for name, others in drawn.items() if name not in free}

    def test_plain_values(self):
        for where, node in self.nodes(ast.Constant):
            self.assertIsInstance(node.value, (int, str, type(None)), where)
            self.assertNotIn("%", str(node.value), where)
        for where, node in self.nodes(ast.Compare):
            for sign, right in zip(node.ops, node.comparators):
                if isinstance(sign, (ast.Is, ast.IsNot)):
                    self.assertIn(getattr(right, "value", 0), (None, True, False), where)


if __name__ == "__main__":
    unittest.main()

"""The form of the package's files, as far as it can be read off them: the rules of LANGUAGE.md by their numbers."""

import ast
import builtins
import re
import unittest
from pathlib import Path

PACKAGE = Path(__file__).resolve().parent.parent / "lampwish"

STATEMENTS = (ast.FunctionDef, ast.ClassDef, ast.ImportFrom, ast.Assign, ast.AugAssign, ast.If, ast.While, ast.For,
              ast.Return, ast.Break, ast.Continue, ast.Pass, ast.Raise, ast.Try, ast.Expr)
EXPRESSIONS = (ast.BoolOp, ast.BinOp, ast.UnaryOp, ast.IfExp, ast.Lambda, ast.Dict, ast.Set, ast.ListComp, ast.Compare,
               ast.Call, ast.JoinedStr, ast.FormattedValue, ast.Constant, ast.Attribute, ast.Subscript, ast.Slice,
               ast.Name, ast.List, ast.Tuple)
PYTHONS_OWN = """len range enumerate zip min max sum abs sorted reversed int str bool list tuple dict set frozenset
    isinstance ord repr any all divmod Exception ValueError TypeError KeyError IndexError LookupError
    ZeroDivisionError ArithmeticError OverflowError RuntimeError NotImplementedError AttributeError
    StopIteration""".split()
METHODS = """append clear copy count endswith extend find get index insert isalnum isalpha isdigit islower isspace
    isupper items join keys ljust lower lstrip partition pop remove replace reverse rfind rjust rpartition rsplit
    rstrip setdefault split splitlines startswith strip update upper values zfill bit_length""".split()
KEYWORDS = {"sorted": ("key", "reverse"), "min": ("key", "default"), "max": ("key", "default"), "sum": ("start",),
            "enumerate": ("start",), "zip": ("strict",)}
WORDS = """type typing typing_extensions enum Enum IntEnum StrEnum Flag IntFlag Generic Protocol ABC ABCMeta namedtuple
    NamedTuple TypedDict TYPE_CHECKING abstractmethod""".split()
UNUSED = "register mro elements open input version_info with_traceback add_note format format_map".split()


def files():
    return sorted(PACKAGE.glob("*.py"))


def tree_of(path):
    return ast.parse(path.read_text(encoding="ascii"))


def nodes(kind):
    return [(path.name, node) for path in files() for node in ast.walk(tree_of(path)) if isinstance(node, kind)]


def own_attributes(tree):
    """The methods of the package's classes and the values that they set."""
    methods = [item.name for node in ast.walk(tree) if isinstance(node, ast.ClassDef) for item in node.body
               if isinstance(item, ast.FunctionDef)]
    values = [node.attr for node in ast.walk(tree) if isinstance(node, ast.Attribute)
              and isinstance(node.ctx, ast.Store)]
    return methods, values


class Form(unittest.TestCase):
    def test_l1_and_l14_only_files_with_plain_names(self):
        held = [path for path in PACKAGE.iterdir() if path.name != "__pycache__"]
        self.assertEqual(sorted(held), files())
        for path in held:
            self.assertRegex(path.name, r"\A(__init__|[a-z][a-z0-9_]*)\.py\Z")
            self.assertNotIn(path.stem, dir(builtins))

    def test_l10_and_l14_sizes_and_signs(self):
        for path in files():
            text = path.read_text(encoding="ascii")
            self.assertRegex(text, r"\A[ -~\n]*\Z", path.name)
            lines = text.splitlines()
            self.assertLessEqual(len(lines), 400, path.name)
            self.assertLessEqual(max(len(line) for line in lines), 120, path.name)
        for name, node in nodes(ast.FunctionDef):
            self.assertLessEqual(node.end_lineno - node.lineno + 1, 40, (name, node.name))

    def test_l6_and_l7_statements_and_expressions(self):
        for name, node in nodes((ast.stmt, ast.expr)):
            kinds = STATEMENTS if isinstance(node, ast.stmt) else EXPRESSIONS
            self.assertIsInstance(node, kinds, (name, node.lineno))
        for name, node in nodes((ast.Div, ast.MatMult)):
            self.fail(name)
        for name, node in nodes(ast.Assign):
            self.assertEqual(len(node.targets), 1, (name, node.lineno))
            self.assertNotIsInstance(node.targets[0], (ast.Tuple, ast.List), (name, node.lineno))
        for name, node in nodes((ast.For, ast.While)):
            self.assertEqual(node.orelse, [], (name, node.lineno))
        for name, node in nodes(ast.Try):
            self.assertEqual(node.finalbody, [], (name, node.lineno))
        for name, node in nodes(ast.ListComp):
            self.assertEqual(len(node.generators), 1, (name, node.lineno))
            self.assertLessEqual(len(node.generators[0].ifs), 1, (name, node.lineno))
        for name, node in nodes(ast.Constant):
            self.assertIn(type(node.value), (int, str, bool, type(None)), (name, node.lineno))

    def test_l3_and_l16_the_top_of_a_file(self):
        for path in files():
            tree = tree_of(path)
            self.assertIsNotNone(ast.get_docstring(tree), path.name)
            for node in tree.body[1:]:
                self.assertIsInstance(node, (ast.ImportFrom, ast.FunctionDef, ast.ClassDef), (path.name, node.lineno))
            for node in ast.walk(tree):
                if isinstance(node, ast.ImportFrom):
                    drawn = tree_of(PACKAGE / (node.module.split(".")[1] + ".py"))
                    defined = [item.name for item in drawn.body if not isinstance(item, (ast.Expr, ast.ImportFrom))]
                    for alias in node.names:
                        self.assertIsNone(alias.asname, path.name)
                        self.assertIn(alias.name, defined, path.name)

    def test_l4_plain_parameters(self):
        for name, node in nodes(ast.FunctionDef):
            held = node.args
            self.assertEqual([held.vararg, held.kwarg, held.kwonlyargs, held.posonlyargs, node.decorator_list],
                             [None, None, [], [], []], (name, node.name))

    def test_l8_l12_and_l15_names(self):
        for path in files():
            tree = tree_of(path)
            bound = [node.id for node in ast.walk(tree) if isinstance(node, ast.Name)
                     and isinstance(node.ctx, ast.Store)]
            bound += [node.arg for node in ast.walk(tree) if isinstance(node, ast.arg)]
            tops = [item.name for item in tree.body if isinstance(item, (ast.FunctionDef, ast.ClassDef))]
            drawn = [alias.name for item in tree.body if isinstance(item, ast.ImportFrom) for alias in item.names]
            self.assertEqual(len(set(tops + drawn)), len(tops + drawn), path.name)
            for word in bound:
                self.assertRegex(word, r"\A[A-Za-z][A-Za-z0-9_]*\Z", path.name)
                self.assertNotIn(word, tops + drawn + dir(builtins), path.name)
            used = [node.id for node in ast.walk(tree) if isinstance(node, ast.Name)]
            for word in used:
                self.assertIn(word, bound + tops + drawn + PYTHONS_OWN, path.name)

    def test_l17_words_that_stand_nowhere(self):
        for path in files():
            text = path.read_text(encoding="ascii")
            for word in WORDS:
                self.assertIsNone(re.search(r"\b" + word + r"\b", text), (path.name, word))
            for word in ("dataclass", "overload", "contextmanager"):
                self.assertNotIn(word, text)
        for name, node in nodes((ast.Name, ast.Attribute)):
            self.assertNotIn(node.id if isinstance(node, ast.Name) else node.attr, UNUSED, (name, node.lineno))

    def test_l20_is_stands_beside_none_true_and_false(self):
        for name, node in nodes(ast.Compare):
            if any(isinstance(sign, (ast.Is, ast.IsNot)) for sign in node.ops):
                self.assertIsInstance(node.comparators[-1], ast.Constant, (name, node.lineno))

    def test_l22_keywords(self):
        for name, node in nodes(ast.Call):
            for keyword in node.keywords:
                self.assertIsInstance(node.func, ast.Name, (name, node.lineno))
                self.assertIn(keyword.arg, KEYWORDS.get(node.func.id, ()), (name, node.lineno))

    def test_l24_sets_stand_within_sorted(self):
        inner = [node.args[0] for name, node in nodes(ast.Call) if getattr(node.func, "id", "") == "sorted"]
        within = len([node for node in inner if getattr(getattr(node, "func", None), "id", "") == "set"])
        made = [node for name, node in nodes(ast.Name) if node.id in ("set", "frozenset")]
        self.assertEqual(len(made), within)
        self.assertEqual(nodes(ast.Set), [])

    def test_l18_l25_and_l26_methods_and_values(self):
        methods, values = [], []
        for path in files():
            found = own_attributes(tree_of(path))
            methods += found[0]
            values += found[1]
        self.assertEqual(set(methods) & set(values), set())
        for word in methods + values:
            held = [kind for kind in (str, int, list, dict, set, bytes, tuple) if hasattr(kind, word)]
            self.assertTrue(word == "__init__" or held == [], word)
        for path in files():
            tree = tree_of(path)
            called = [node.func for node in ast.walk(tree) if isinstance(node, ast.Call)]
            for node in ast.walk(tree):
                if isinstance(node, ast.Attribute):
                    self.assertIn(node.attr, METHODS + methods + values, (path.name, node.lineno))
                    self.assertFalse(node.attr.startswith("_"), (path.name, node.lineno))
                    self.assertEqual(node in called, node.attr not in values, (path.name, node.lineno))

    def test_l27_no_percent_sign_in_a_text(self):
        for name, node in nodes(ast.Constant):
            if isinstance(node.value, str):
                self.assertNotIn("%", node.value, (name, node.lineno))
        self.assertEqual(nodes(ast.Pow), [])

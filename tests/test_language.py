"""What of the language rules (L1 to L28) is plain to see in the package's files."""

import ast
import builtins
import pathlib
import re
import unittest

PACKAGE = pathlib.Path(__file__).resolve().parent.parent / "forestroads"
NODES = set("""
    Module Import ImportFrom alias FunctionDef arguments arg ClassDef Return Assign AugAssign For While If Raise Try
    ExceptHandler Expr Pass Break Continue BoolOp And Or BinOp Add Sub Mult FloorDiv Mod Pow LShift RShift BitOr BitXor
    BitAnd UnaryOp Not USub Invert Lambda IfExp Dict ListComp comprehension Compare Eq NotEq Lt LtE Gt GtE Is IsNot In
    NotIn Call keyword Constant Attribute Subscript Slice Name List Tuple Load Store JoinedStr FormattedValue
    """.split())
BUILT_IN = set("""
    len range enumerate zip min max sum abs sorted reversed int str bool list tuple dict isinstance ord repr any all
    divmod
    """.split())
METHODS = set("""
    append clear copy count endswith extend find get index insert isalnum isalpha isdigit islower isspace isupper items
    join keys ljust lower lstrip partition pop remove replace reverse rfind rjust rpartition rsplit rstrip setdefault
    split splitlines startswith strip update upper values zfill bit_length
    """.split())
WORDS = re.compile(
    r"\b(type|typing|typing_extensions|enum|Enum|IntEnum|StrEnum|Flag|IntFlag|Generic|Protocol|ABC|ABCMeta|namedtuple|"
    r"NamedTuple|TypedDict|TYPE_CHECKING|abstractmethod)\b|dataclass|overload|contextmanager")


def kind(node):
    return node.__class__.__name__


class Language(unittest.TestCase):
    def setUp(self):
        self.texts = {path.name: path.read_text("utf-8") for path in sorted(PACKAGE.glob("*.py"))}
        self.trees = {name: ast.parse(text) for name, text in self.texts.items()}
        self.nodes = [(name, node) for name, tree in self.trees.items() for node in ast.walk(tree)]

    def test_files(self):
        found = [path.name for path in PACKAGE.iterdir() if path.name != "__pycache__"]
        self.assertEqual(sorted(found), sorted(self.texts))
        self.assertIn("__init__.py", found)
        for name in found:
            self.assertRegex(name, r"^([a-z][a-z0-9_]*|__init__)\.py$")

    def test_signs_words_and_sizes(self):
        for name, text in self.texts.items():
            self.assertRegex(text, r"\A[ -~\n]*\Z", name)
            self.assertIsNone(WORDS.search(text), name)
            self.assertLessEqual(len(text.splitlines()), 400, name)
            self.assertLessEqual(max(map(len, text.splitlines())), 120, name)
        for name, node in self.nodes:
            if kind(node) == "FunctionDef":
                self.assertLessEqual(node.end_lineno - node.lineno + 1, 40, (name, node.name))

    def test_statements_and_expressions(self):
        for name, node in self.nodes:
            self.assertIn(kind(node), NODES, (name, getattr(node, "lineno", 0)))
            if kind(node) == "Assign":
                self.assertEqual(len(node.targets), 1, (name, node.lineno))
            if kind(node) == "For" or kind(node) == "While":
                self.assertEqual(node.orelse, [], (name, node.lineno))
            if kind(node) == "Constant":
                self.assertIn(kind(node.value), ("int", "str", "bool", "NoneType"), (name, node.lineno))

    def test_tops_of_files(self):
        allowed = ("Expr", "ImportFrom", "FunctionDef", "ClassDef", "Assign")
        for name, tree in self.trees.items():
            for node in tree.body:
                self.assertIn(kind(node), allowed, (name, node.lineno))
                if kind(node) == "Assign":
                    ast.literal_eval(node.value)

    def test_imports(self):
        for name, node in self.nodes:
            self.assertNotEqual(kind(node), "Import", name)
            if kind(node) == "ImportFrom":
                self.assertEqual(node.level, 0)
                self.assertRegex(node.module, r"^forestroads\.")

    def test_names(self):
        own = set()
        for name, node in self.nodes:
            if kind(node) in ("FunctionDef", "ClassDef"):
                own.add(node.name)
            if kind(node) == "Name" and kind(node.ctx) == "Store":
                own.add(node.id)
            if kind(node) == "Attribute" and kind(node.ctx) == "Store":
                own.add(node.attr)
            if kind(node) == "arg":
                own.add(node.arg)
        for name in own - {"__init__"}:
            self.assertRegex(name, r"^[A-Za-z][A-Za-z0-9_]*$")
            self.assertNotIn(name, dir(builtins))
        for name, node in self.nodes:
            if kind(node) == "Name":
                self.assertIn(node.id, own | BUILT_IN, (name, node.lineno))
            if kind(node) == "Attribute":
                self.assertIn(node.attr, own | METHODS, (name, node.lineno))

    def test_functions(self):
        for name, node in self.nodes:
            if kind(node) in ("FunctionDef", "Lambda"):
                given = node.args
                self.assertEqual([given.posonlyargs, given.kwonlyargs], [[], []], (name, node.lineno))
                self.assertEqual([given.vararg, given.kwarg], [None, None], (name, node.lineno))
            if kind(node) in ("FunctionDef", "ClassDef"):
                self.assertEqual(node.decorator_list, [], (name, node.lineno))

    def test_classes(self):
        methods = set()
        values = set()
        for name, node in self.nodes:
            if kind(node) == "ClassDef":
                self.assertIn(node, self.trees[name].body)
                self.assertLessEqual(len(node.bases), 1, (name, node.name))
                here = [one.name for one in node.body if kind(one) == "FunctionDef"]
                self.assertEqual(len(here), len(set(here)), (name, node.name))
                # Behind the docstring a class has methods alone.
                self.assertEqual(len(here), len(node.body) - 1, (name, node.name))
                methods.update(here)
            if kind(node) == "Attribute" and kind(node.ctx) == "Store":
                values.add(node.attr)
        self.assertEqual(methods & values, set())
        of_python = {one for kept in (str, int, list, dict, set, bytes, tuple) for one in dir(kept)}
        self.assertEqual((methods - {"__init__"} | values) & of_python, set())

    def test_each_name_once_at_the_top(self):
        for name, tree in self.trees.items():
            bound = [node.targets[0].id for node in tree.body if kind(node) == "Assign"]
            bound += [node.name for node in tree.body if kind(node) in ("FunctionDef", "ClassDef")]
            bound += [one.name for node in tree.body if kind(node) == "ImportFrom" for one in node.names]
            self.assertEqual(len(bound), len(set(bound)), name)

    def test_comprehensions(self):
        for name, node in self.nodes:
            if kind(node) == "ListComp":
                self.assertEqual(len(node.generators), 1, (name, node.lineno))
                self.assertLessEqual(len(node.generators[0].ifs), 1, (name, node.lineno))

    def test_is_beside_none_true_and_false_alone(self):
        for name, node in self.nodes:
            if kind(node) == "Compare" and any(kind(op) in ("Is", "IsNot") for op in node.ops):
                self.assertIn(ast.unparse(node.comparators[0]), ("None", "True", "False"), (name, node.lineno))

    def test_walked_at_once(self):
        walked = [node.iter for name, node in self.nodes if kind(node) in ("For", "comprehension")]
        for name, node in self.nodes:
            if kind(node) == "Call" and kind(node.func) == "Name":
                if node.func.id in ("zip", "enumerate", "reversed", "range"):
                    self.assertIn(node, walked, (name, node.lineno))


if __name__ == "__main__":
    unittest.main()

"""The package keeps to its small part of Python; the rules that a walk through the files can see."""
import ast
import builtins
import pathlib
import re
import unittest

PACKAGE = pathlib.Path(__file__).resolve().parent.parent / "wheelarea"

NODES = set("""
Module FunctionDef ClassDef arguments arg Expr Return Assign AugAssign If While For Break Continue Pass Raise Try
ExceptHandler Name Load Store Constant List Tuple Dict Call Attribute Subscript Slice BoolOp And Or UnaryOp Not USub
BinOp Add Sub Mult FloorDiv Mod Pow BitAnd BitOr BitXor LShift RShift Compare Eq NotEq Lt LtE Gt GtE In NotIn Is IsNot
IfExp ListComp comprehension Lambda keyword JoinedStr FormattedValue
""".split())

OWN_NAMES = set("""
len range enumerate zip min max sum abs sorted reversed int str bool list tuple dict set frozenset isinstance ord repr
any all divmod Exception ValueError KeyError IndexError LookupError ZeroDivisionError StopIteration
""".split())

METHODS = set("""
append clear copy count endswith extend find get index insert isalnum isalpha isdigit islower isspace isupper items join
keys ljust lower lstrip partition pop remove replace reverse rfind rjust rpartition rsplit rstrip setdefault split
splitlines startswith strip update upper values zfill bit_length
""".split())

WORDS_NOT_USED = re.compile(
    r"\b(type|typing|typing_extensions|enum|Enum|IntEnum|StrEnum|Flag|IntFlag|Generic|Protocol|ABC|ABCMeta|namedtuple"
    r"|NamedTuple|TypedDict|TYPE_CHECKING|abstractmethod)\b|dataclass|overload|contextmanager"
)


def bound_names(tree):
    for node in ast.walk(tree):
        if isinstance(node, ast.Name) and isinstance(node.ctx, ast.Store):
            yield node.id
        elif isinstance(node, ast.arg):
            yield node.arg
        elif isinstance(node, (ast.FunctionDef, ast.ClassDef)):
            yield node.name


class Form(unittest.TestCase):
    def setUp(self):
        self.files = sorted(PACKAGE.glob("*.py"))
        self.texts = {file.name: file.read_text(encoding="ascii") for file in self.files}
        self.trees = {name: ast.parse(text) for name, text in self.texts.items()}

    def nodes(self, *kinds):
        for name, tree in self.trees.items():
            for node in ast.walk(tree):
                if not kinds or isinstance(node, kinds):
                    yield name, node

    def test_nothing_else_lies_in_the_folder(self):
        names = [entry.name for entry in PACKAGE.iterdir() if entry.name != "__pycache__"]
        self.assertEqual(sorted(names), ["__init__.py", "pointer.py"])

    def test_signs_and_sizes(self):
        for name, text in self.texts.items():
            lines = text.split("\n")
            self.assertLessEqual(len(lines), 400, name)
            for number, line in enumerate(lines, 1):
                self.assertRegex(line, r"\A[ -~]{0,120}\Z", f"{name}:{number}")
                self.assertIsNone(WORDS_NOT_USED.search(line), f"{name}:{number}")
        for name, node in self.nodes(ast.FunctionDef):
            self.assertLessEqual(node.end_lineno - node.lineno + 1, 40, f"{name}: {node.name}")

    def test_nothing_is_imported_and_only_plain_parts_are_used(self):
        for name, node in self.nodes():
            self.assertIn(node.__class__.__name__, NODES, f"{name}: {ast.dump(node)[:80]}")

    def test_constants_are_whole_numbers_or_texts(self):
        for name, node in self.nodes(ast.Constant):
            self.assertIsInstance(node.value, (int, str, bool, None.__class__), f"{name}:{node.lineno}")

    def test_names(self):
        for name, tree in self.trees.items():
            bound = set(bound_names(tree))
            for word in bound - {"__init__"}:
                self.assertRegex(word, r"\A[A-Za-z][A-Za-z0-9_]*\Z", name)
                self.assertFalse(hasattr(builtins, word), f"{name}: {word}")
            for node in ast.walk(tree):
                if isinstance(node, ast.Name) and node.id not in bound:
                    self.assertIn(node.id, OWN_NAMES, f"{name}:{node.lineno}")

    def test_methods_are_the_programs_own_or_let(self):
        own = {node.name for name, node in self.nodes(ast.FunctionDef)}
        for name, node in self.nodes(ast.Call):
            if isinstance(node.func, ast.Attribute):
                self.assertIn(node.func.attr, METHODS | own, f"{name}:{node.lineno}")

    def test_each_name_of_a_files_top_is_bound_once(self):
        for name, tree in self.trees.items():
            bound = []
            for row in tree.body:
                if isinstance(row, ast.Assign):
                    bound.append(row.targets[0].id)
                    ast.literal_eval(row.value)
                elif isinstance(row, (ast.FunctionDef, ast.ClassDef)):
                    bound.append(row.name)
                else:
                    self.assertIsInstance(row, ast.Expr, f"{name}:{row.lineno}")
            self.assertEqual(len(bound), len(set(bound)), name)

    def test_assignments_and_functions_are_plain(self):
        for name, node in self.nodes(ast.Assign):
            self.assertEqual(len(node.targets), 1, f"{name}:{node.lineno}")
        for name, node in self.nodes(ast.For, ast.While):
            self.assertEqual(node.orelse, [], f"{name}:{node.lineno}")
        for name, node in self.nodes(ast.FunctionDef):
            given = node.args
            self.assertFalse(node.decorator_list or given.vararg or given.kwarg or given.kwonlyargs, node.name)

    def test_no_function_calls_itself(self):
        for name, node in self.nodes(ast.FunctionDef):
            for within in ast.walk(node):
                if isinstance(within, ast.Call):
                    called = within.func
                    word = called.attr if isinstance(called, ast.Attribute) else called.id
                    self.assertNotEqual(word, node.name, f"{name}:{within.lineno}")


if __name__ == "__main__":
    unittest.main()

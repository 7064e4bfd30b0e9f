"""The form of the package's files, as far as it is plainly seen: files, signs, sizes, statements, names."""

import ast
import builtins
import re
import unittest
from pathlib import Path

PACKAGE = Path(__file__).resolve().parent.parent / "evenwires"
FILES = sorted(PACKAGE.rglob("*.py"))
TREES = {file.name: ast.parse(file.read_text(encoding="ascii")) for file in FILES}

PLAIN_NODES = set("""
Module Expr Assign AugAssign If While For Return Break Continue Pass Raise Try ExceptHandler FunctionDef ClassDef
ImportFrom alias arguments arg Name Load Store Constant List Tuple Dict BinOp UnaryOp BoolOp Compare IfExp Call
Attribute Subscript Slice ListComp comprehension JoinedStr FormattedValue Lambda keyword
Add Sub Mult FloorDiv Mod Pow BitAnd BitOr BitXor LShift RShift Invert USub Not And Or
Eq NotEq Lt LtE Gt GtE In NotIn Is IsNot
""".split())
PLAIN_BUILTINS = set("""
len range enumerate zip min max sum abs sorted reversed int str bool list tuple dict set frozenset isinstance ord
repr any all divmod Exception ValueError TypeError KeyError IndexError LookupError ZeroDivisionError
ArithmeticError OverflowError RuntimeError NotImplementedError AttributeError StopIteration
""".split())
PLAIN_METHODS = set("""
append clear copy count endswith extend find get index insert isalnum isalpha isdigit islower isspace isupper items
join keys ljust lower lstrip partition pop remove replace reverse rfind rjust rpartition rsplit rstrip setdefault
split splitlines startswith strip update upper values zfill bit_length
""".split())
WORDS_LEFT_OUT = re.compile(
    r"\b(type|typing|typing_extensions|enum|Enum|IntEnum|StrEnum|Flag|IntFlag|Generic|Protocol|ABC|ABCMeta|namedtuple"
    r"|NamedTuple|TypedDict|TYPE_CHECKING|abstractmethod)\b|dataclass|overload|contextmanager"
)


WALKED_AT_ONCE = ("zip", "enumerate", "reversed", "range", "items", "keys", "values")
MAY_WALK = ("list", "tuple", "dict", "sorted", "sum", "any", "all", "enumerate", "zip", "min", "max", "join")
KEYWORDS = {
    "sorted": ("key", "reverse"), "min": ("key", "default"), "max": ("key", "default"),
    "sum": ("start",), "enumerate": ("start",), "zip": ("strict",),
}


def nodes_of(kinds):
    for name, tree in TREES.items():
        for node in ast.walk(tree):
            if isinstance(node, kinds):
                yield name, node


class Form(unittest.TestCase):
    def test_files(self):
        self.assertIn("__init__.py", TREES)
        for path in PACKAGE.rglob("*"):
            if "__pycache__" not in path.parts:
                self.assertRegex(path.name, r"^([a-z][a-z0-9_]*|__init__|__main__)\.py$")

    def test_signs_and_sizes(self):
        for file in FILES:
            text = file.read_text(encoding="ascii")
            self.assertRegex(text, r"\A[ -~\n]*\Z")
            self.assertLessEqual(len(text.splitlines()), 400)
            self.assertLessEqual(max(len(line) for line in text.splitlines()), 120)
            self.assertIsNone(WORDS_LEFT_OUT.search(text), file.name)
        for name, node in nodes_of(ast.FunctionDef):
            self.assertLessEqual(node.end_lineno - node.lineno + 1, 40, f"{name}: {node.name}")

    def test_statements_and_expressions(self):
        for name, node in nodes_of(ast.AST):
            self.assertIn(type(node).__name__, PLAIN_NODES, f"{name}:{getattr(node, 'lineno', 0)}")

    def test_defs(self):
        for name, node in nodes_of((ast.FunctionDef, ast.ClassDef)):
            self.assertEqual(node.decorator_list, [], f"{name}: {node.name}")
        for name, node in nodes_of(ast.arguments):
            self.assertEqual((node.vararg, node.kwarg, node.kwonlyargs, node.posonlyargs), (None, None, [], []))

    def test_loops_and_assignments(self):
        for name, node in nodes_of((ast.For, ast.While)):
            self.assertEqual(node.orelse, [], f"{name}:{node.lineno}")
        for name, node in nodes_of(ast.Assign):
            self.assertEqual(len(node.targets), 1, f"{name}:{node.lineno}")
            self.assertIsInstance(node.targets[0], (ast.Name, ast.Attribute, ast.Subscript), f"{name}:{node.lineno}")

    def test_imports(self):
        for name, node in nodes_of(ast.ImportFrom):
            self.assertIn(node, TREES[name].body)
            self.assertEqual(node.level, 0)
            self.assertRegex(node.module, r"^evenwires\.[a-z_]+$")
            defined = self.bound_at_top(TREES[node.module.split(".")[1] + ".py"])
            for imported in node.names:
                self.assertIn(imported.name, defined)

    def bound_at_top(self, tree):
        bound = [node.name for node in tree.body if isinstance(node, (ast.FunctionDef, ast.ClassDef))]
        bound += [node.targets[0].id for node in tree.body if isinstance(node, ast.Assign)]
        self.assertEqual(len(bound), len(set(bound)))
        return bound

    def test_names(self):
        own_methods = {node.name for name, node in nodes_of(ast.FunctionDef)}
        for name, node in nodes_of(ast.Name):
            self.assertFalse(node.id.startswith("_"), f"{name}: {node.id}")
            if hasattr(builtins, node.id):
                self.assertIn(node.id, PLAIN_BUILTINS)
                self.assertIsInstance(node.ctx, ast.Load, f"{name}: {node.id}")
        for name, node in nodes_of(ast.arg):
            self.assertFalse(node.arg.startswith("_") or hasattr(builtins, node.arg), f"{name}: {node.arg}")
        for name, node in nodes_of(ast.Call):
            if isinstance(node.func, ast.Attribute):
                self.assertIn(node.func.attr, own_methods | PLAIN_METHODS, f"{name}:{node.lineno}")

    def test_values(self):
        for name, node in nodes_of(ast.Constant):
            self.assertIn(type(node.value), (int, str, bool, type(None)), f"{name}:{node.lineno}")
            self.assertFalse(isinstance(node.value, str) and "%" in node.value, f"{name}:{node.lineno}")

    def test_the_top_of_a_module(self):
        for name, tree in TREES.items():
            for place, node in enumerate(tree.body):
                if place == 0:
                    self.assertIsInstance(ast.literal_eval(node.value), str, name)
                elif isinstance(node, ast.Assign):
                    self.check_plain_and_unchanging(ast.literal_eval(node.value))
                else:
                    self.assertIsInstance(node, (ast.ImportFrom, ast.FunctionDef, ast.ClassDef), name)

    def check_plain_and_unchanging(self, value):
        # Tuples alone: then no def can change what stands there.
        self.assertIsInstance(value, (int, str, tuple))
        for part in value if isinstance(value, tuple) else ():
            self.check_plain_and_unchanging(part)

    def test_no_two_files_draw_from_one_another(self):
        drawn = {name: [node.module.split(".")[1] + ".py" for node in tree.body if isinstance(node, ast.ImportFrom)]
                 for name, tree in TREES.items()}
        while drawn:
            free = [name for name, others in drawn.items() if not set(others) & set(drawn)]
            self.assertNotEqual(free, [], drawn)
            drawn = {name: others for name, others in drawn.items() if name not in free}

    def test_locals_hide_nothing(self):
        for name, tree in TREES.items():
            top = [node.name for node in tree.body if isinstance(node, (ast.FunctionDef, ast.ClassDef))]
            top += [each.name for node in tree.body if isinstance(node, ast.ImportFrom) for each in node.names]
            local = [node.arg for node in ast.walk(tree) if isinstance(node, ast.arg)]
            names = [node for node in ast.walk(tree) if isinstance(node, ast.Name)]
            local += [node.id for node in names if isinstance(node.ctx, ast.Store)]
            self.assertEqual(set(local) & (set(top) | set(dir(builtins))), set(), name)

    def test_methods_and_values(self):
        methods = {node.name for name, each in nodes_of(ast.ClassDef) for node in each.body
                   if isinstance(node, ast.FunctionDef)}
        values = {node.attr for name, node in nodes_of(ast.Attribute) if isinstance(node.ctx, ast.Store)}
        of_python = {each for kind in (str, int, list, dict, set, tuple, bytes) for each in dir(kind)}
        self.assertEqual(methods & values, set())
        self.assertEqual((methods | values) & of_python - {"__init__"}, set())
        for name, each in nodes_of(ast.ClassDef):
            for node in each.body:
                self.assertTrue(isinstance(node, ast.FunctionDef) or isinstance(ast.literal_eval(node.value), str))

    def test_narrower_expressions(self):
        for name, node in nodes_of(ast.Compare):
            if isinstance(node.ops[0], (ast.Is, ast.IsNot)):
                self.assertIn(ast.unparse(node.comparators[0]), ("None", "True", "False"), f"{name}:{node.lineno}")
        for name, node in nodes_of(ast.ListComp):
            self.assertEqual(len(node.generators), 1, f"{name}:{node.lineno}")
            self.assertLessEqual(len(node.generators[0].ifs), 1, f"{name}:{node.lineno}")
        for name, node in nodes_of(ast.BinOp):
            if isinstance(node.op, ast.Pow):
                self.assertIn(ast.literal_eval(node.right), range(65), f"{name}:{node.lineno}")
        for name, node in nodes_of(ast.FunctionDef):
            annotated = [node.returns] + [each.annotation for each in node.args.args]
            self.assertEqual(annotated, [None] * len(annotated), f"{name}: {node.name}")

    def test_keywords_of_python_s_own(self):
        for name, node in nodes_of(ast.Call):
            called = ast.unparse(node.func)
            for keyword in node.keywords:
                self.assertIn(keyword.arg, KEYWORDS.get(called, ()), f"{name}:{node.lineno}")

    def test_walked_at_once(self):
        walked = []
        for name, node in nodes_of((ast.For, ast.comprehension)):
            walked.append(node.iter)
        for name, node in nodes_of(ast.Call):
            if ast.unparse(node.func).split(".")[-1] in MAY_WALK:
                walked += node.args[:1]
        for name, node in nodes_of(ast.Call):
            if ast.unparse(node.func).split(".")[-1] in WALKED_AT_ONCE:
                self.assertIn(node, walked, f"{name}:{node.lineno}")


if __name__ == "__main__":
    unittest.main()

"""The form of the package's own files: what can be seen by reading them."""

import ast
import builtins
import pathlib
import re
import unittest

PACKAGE = pathlib.Path(__file__).resolve().parent.parent / "heldstill"

PLAIN_NAMES = set(
    "len range enumerate zip min max sum abs sorted reversed int str bool list tuple dict set frozenset isinstance ord "
    "repr any all divmod Exception ValueError TypeError KeyError IndexError LookupError ZeroDivisionError "
    "ArithmeticError OverflowError RuntimeError NotImplementedError AttributeError StopIteration".split()
)
PLAIN_METHODS = set(
    "append clear copy count endswith extend find get index insert isalnum isalpha isdigit islower isspace isupper "
    "items join keys ljust lower lstrip partition pop remove replace reverse rfind rjust rpartition rsplit rstrip "
    "setdefault split splitlines startswith strip update upper values zfill bit_length".split()
)
LEFT_OUT_NODES = (
    ast.With, ast.Match, ast.Delete, ast.Global, ast.Nonlocal, ast.Assert, ast.Yield, ast.YieldFrom, ast.AsyncFor,
    ast.AsyncFunctionDef, ast.AsyncWith, ast.Await, ast.SetComp, ast.DictComp, ast.GeneratorExp, ast.NamedExpr,
    ast.Starred, ast.Div, ast.MatMult, ast.Import, ast.TryStar,
)
LEFT_OUT_WORDS = re.compile(
    r"\b(type|typing|typing_extensions|enum|Enum|IntEnum|StrEnum|Flag|IntFlag|Generic|Protocol|ABC|ABCMeta|namedtuple"
    r"|NamedTuple|TypedDict|TYPE_CHECKING|abstractmethod)\b|dataclass|overload|contextmanager"
)


def sources():
    return sorted(path for path in PACKAGE.iterdir() if path.name != "__pycache__")


class FormTest(unittest.TestCase):
    def each_tree(self):
        for path in sources():
            yield path, ast.parse(path.read_text(encoding="utf-8"))

    def each_node(self):
        for path, tree in self.each_tree():
            for node in ast.walk(tree):
                yield path, node

    def test_files(self):
        names = [path.name for path in sources()]
        self.assertIn("__init__.py", names)
        for name in names:
            self.assertRegex(name, r"^(__init__|[a-z][a-z0-9_]*)\.py$")

    def test_signs_sizes_and_words(self):
        for path in sources():
            text = path.read_text(encoding="utf-8")
            with self.subTest(file=path.name):
                self.assertRegex(text, r"\A[ -~\n]*\Z")
                self.assertLessEqual(len(text.splitlines()), 399)
                self.assertLessEqual(max(len(line) for line in text.splitlines()), 120)
                self.assertIsNone(LEFT_OUT_WORDS.search(text))

    def test_statements_and_expressions(self):
        for path, node in self.each_node():
            self.assertNotIsInstance(node, LEFT_OUT_NODES)
            if isinstance(node, ast.Constant):
                self.assertIn(node.value.__class__, (int, str, bool, None.__class__))
            if isinstance(node, (ast.For, ast.While)):
                self.assertEqual(node.orelse, [])
            if isinstance(node, ast.Assign):
                self.assertEqual(len(node.targets), 1)
            if isinstance(node, ast.Compare) and any(isinstance(op, (ast.Is, ast.IsNot)) for op in node.ops):
                self.assertIsInstance(node.comparators[0], ast.Constant)

    def test_functions(self):
        for path, node in self.each_node():
            if isinstance(node, ast.FunctionDef):
                self.assertLessEqual(node.end_lineno - node.lineno + 1, 40)
                self.assertEqual(node.decorator_list, [])
                self.assertIsNone(node.args.vararg)
                self.assertIsNone(node.args.kwarg)
                self.assertEqual(node.args.kwonlyargs + node.args.posonlyargs, [])

    def test_imports(self):
        drawn = {}
        for path, tree in self.each_tree():
            drawn[path.stem] = set()
            for node in ast.walk(tree):
                if isinstance(node, ast.ImportFrom):
                    self.assertEqual(node.level, 0)
                    self.assertIn(node, tree.body)
                    self.assertRegex(node.module, r"^heldstill\.[a-z_]+$")
                    drawn[path.stem].add(node.module.partition(".")[2])
        while drawn:
            free = [name for name, others in drawn.items() if not others & set(drawn)]
            self.assertNotEqual(free, [], "files draw from one another")
            for name in free:
                drawn.pop(name)

    def test_names(self):
        for path, node in self.each_node():
            if isinstance(node, ast.Name):
                self.assertRegex(node.id, r"^[A-Za-z]\w*$")
                if hasattr(builtins, node.id):
                    self.assertIn(node.id, PLAIN_NAMES)
                    self.assertIsInstance(node.ctx, ast.Load)
            if isinstance(node, ast.arg):
                self.assertRegex(node.arg, r"^[A-Za-z]\w*$")
                self.assertFalse(hasattr(builtins, node.arg))
            if isinstance(node, ast.Attribute):
                self.assertRegex(node.attr, r"^([A-Za-z]\w*|__init__)$")

    def test_methods(self):
        own = {"__init__"}
        values = set()
        for path, node in self.each_node():
            if isinstance(node, ast.ClassDef):
                own |= {member.name for member in node.body if isinstance(member, ast.FunctionDef)}
            if isinstance(node, ast.Attribute) and isinstance(node.ctx, ast.Store):
                values.add(node.attr)
        self.assertEqual(own & values, set())
        for path, node in self.each_node():
            if isinstance(node, ast.Call) and isinstance(node.func, ast.Attribute):
                self.assertIn(node.func.attr, own | PLAIN_METHODS)

    def test_the_top_of_each_file(self):
        for path, tree in self.each_tree():
            self.assertIsNotNone(ast.get_docstring(tree))
            bound = []
            for node in tree.body[1:]:
                if isinstance(node, ast.ImportFrom):
                    bound += [alias.name for alias in node.names]
                elif isinstance(node, ast.Assign):
                    bound.append(node.targets[0].id)
                    ast.literal_eval(node.value)
                else:
                    self.assertIsInstance(node, (ast.FunctionDef, ast.ClassDef))
                    bound.append(node.name)
            self.assertEqual(len(bound), len(set(bound)))

    def test_the_interface_stands_in_its_file(self):
        places = []
        for path, tree in self.each_tree():
            for node in tree.body:
                if isinstance(node, ast.FunctionDef) and node.name == "answers":
                    places.append((path.name, [arg.arg for arg in node.args.args], node.args.defaults))
        self.assertEqual(places, [("shaking.py", ["calls"], [])])


if __name__ == "__main__":
    unittest.main()

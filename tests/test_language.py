"""Those rules of the program's small part of Python that can be seen at a glance."""

import ast
import builtins
import pathlib
import re
import unittest

PACKAGE = pathlib.Path(__file__).resolve().parent.parent / "leastdeeds"

OWN_NAMES = set(
    "len range enumerate zip min max sum abs sorted reversed int str bool bytes list tuple dict set isinstance ord "
    "repr any all divmod Exception ValueError TypeError KeyError IndexError LookupError ZeroDivisionError "
    "ArithmeticError OverflowError RuntimeError NotImplementedError AttributeError StopIteration".split()
)
METHODS = {"__init__", "__eq__", "__repr__", "__str__", "__len__"}
OUT = (
    ast.With, ast.Match, ast.Global, ast.Nonlocal, ast.Yield, ast.YieldFrom, ast.Await, ast.AsyncFor, ast.AsyncWith,
    ast.AsyncFunctionDef, ast.GeneratorExp, ast.NamedExpr, ast.Div, ast.MatMult, ast.Import, ast.TryStar,
)
PYTHONS_METHODS = set(
    "append clear copy count endswith extend find get index insert isalnum isalpha isdigit islower isspace "
    "isupper items join keys ljust lower lstrip partition pop remove replace reverse rfind rjust rpartition "
    "rsplit rstrip setdefault split splitlines startswith strip update upper values zfill bit_length".split()
)
KEYWORDS = {
    "sorted": {"key", "reverse"}, "min": {"key", "default"}, "max": {"key", "default"}, "sum": {"start"},
    "enumerate": {"start"}, "zip": {"strict"},
}
WORDS_OUT = re.compile(
    r"\b(type|typing|typing_extensions|enum|Enum|IntEnum|StrEnum|Flag|IntFlag|Generic|Protocol|ABC|ABCMeta|namedtuple"
    r"|NamedTuple|TypedDict|TYPE_CHECKING|abstractmethod)\b|dataclass|overload|contextmanager"
)


def names_bound(tree):
    for node in ast.walk(tree):
        if isinstance(node, (ast.FunctionDef, ast.ClassDef)):
            yield node.name
        elif isinstance(node, ast.arg):
            yield node.arg
        elif isinstance(node, ast.Name) and isinstance(node.ctx, ast.Store):
            yield node.id
        elif isinstance(node, ast.Attribute) and isinstance(node.ctx, ast.Store):
            yield node.attr


class LanguageTest(unittest.TestCase):
    def setUp(self):
        self.files = {path.name: path.read_text("ascii") for path in sorted(PACKAGE.rglob("*.py"))}
        self.trees = {name: ast.parse(text) for name, text in self.files.items()}

    def test_files(self):
        self.assertIn("__init__.py", self.files)
        for path in PACKAGE.iterdir():
            if path.name != "__pycache__":
                self.assertRegex(path.name, r"^[a-z_][a-z0-9_]*\.py$")

    def test_signs_and_sizes(self):
        for name, text in self.files.items():
            self.assertEqual(re.findall(r"[^ -~\n]", text), [], name)
            self.assertIsNone(WORDS_OUT.search(text), name)
            self.assertLessEqual(text.count("\n"), 400, name)
            self.assertLessEqual(max(map(len, text.split("\n"))), 120, name)
            for node in ast.walk(self.trees[name]):
                if isinstance(node, ast.FunctionDef):
                    self.assertLessEqual(node.end_lineno - node.lineno + 1, 40, node.name)

    def test_imports(self):
        for name, tree in self.trees.items():
            for node in ast.walk(tree):
                if isinstance(node, ast.ImportFrom):
                    self.assertEqual(node.level, 0)
                    self.assertRegex(node.module, r"^leastdeeds\.")
                    defined = names_bound(self.trees[node.module.split(".")[1] + ".py"])
                    self.assertLessEqual({alias.name for alias in node.names}, set(defined), name)

    def test_forms_that_are_out(self):
        for name, tree in self.trees.items():
            for node in ast.walk(tree):
                self.assertNotIsInstance(node, OUT, name)
                if isinstance(node, (ast.For, ast.While)):
                    self.assertEqual(node.orelse, [], name)
                if isinstance(node, (ast.FunctionDef, ast.ClassDef)):
                    self.assertEqual(node.decorator_list, [], name)
                if isinstance(node, ast.Constant):
                    self.assertNotIsInstance(node.value, (float, complex), name)

    def test_no_local_is_called_like_an_import_or_a_class(self):
        for name, tree in self.trees.items():
            taken = {alias.name for node in ast.walk(tree) if isinstance(node, ast.ImportFrom) for alias in node.names}
            taken |= {node.name for node in ast.walk(tree) if isinstance(node, ast.ClassDef)}
            for node in ast.walk(tree):
                if isinstance(node, ast.FunctionDef):
                    inner = [bound for part in (node.args, *node.body) for bound in names_bound(part)]
                    self.assertEqual(taken & set(inner), set(), (name, node.name))

    def test_calls(self):
        own_methods = {
            method.name for tree in self.trees.values() for node in ast.walk(tree) if isinstance(node, ast.ClassDef)
            for method in node.body if isinstance(method, ast.FunctionDef)
        }
        for name, tree in self.trees.items():
            for node in ast.walk(tree):
                if not isinstance(node, ast.Call):
                    continue
                if isinstance(node.func, ast.Attribute):
                    self.assertIn(node.func.attr, PYTHONS_METHODS | own_methods, name)
                elif isinstance(node.func, ast.Name) and hasattr(builtins, node.func.id):
                    given = {keyword.arg for keyword in node.keywords}
                    self.assertLessEqual(given, KEYWORDS.get(node.func.id, set()), name)

    def test_signs_between_values(self):
        for name, tree in self.trees.items():
            for node in ast.walk(tree):
                if isinstance(node, ast.Compare):
                    for sign, right in zip(node.ops, node.comparators):
                        if isinstance(sign, (ast.Is, ast.IsNot)):
                            self.assertIn(ast.unparse(right), ("None", "True", "False"), name)
                if isinstance(node, ast.BinOp) and isinstance(node.op, ast.Pow):
                    self.assertIsInstance(node.right, ast.Constant, name)
                if isinstance(node, ast.Constant) and isinstance(node.value, str):
                    self.assertNotIn("%", node.value, name)
                self.assertNotIsInstance(node, (ast.Set, ast.SetComp, ast.Starred), name)

    def test_what_a_loop_walks_is_not_changed_in_it(self):
        changes = {"append", "clear", "extend", "insert", "pop", "remove", "reverse", "setdefault", "sort", "update"}
        for name, tree in self.trees.items():
            for loop in [node for node in ast.walk(tree) if isinstance(node, ast.For)]:
                walked = {node.id for node in ast.walk(loop.iter) if isinstance(node, ast.Name)}
                for node in [node for row in loop.body for node in ast.walk(row)]:
                    if isinstance(node, ast.Attribute) and node.attr in changes:
                        self.assertNotIn(ast.unparse(node.value), walked, (name, loop.lineno))
                    if isinstance(node, ast.Subscript) and isinstance(node.ctx, (ast.Store, ast.Del)):
                        self.assertNotIn(ast.unparse(node.value), walked, (name, loop.lineno))

    def test_no_two_files_draw_from_one_another(self):
        draws = {
            name[:-3]: {node.module.split(".")[1] for node in ast.walk(tree) if isinstance(node, ast.ImportFrom)}
            for name, tree in self.trees.items()
        }
        while draws:
            free = [name for name in draws if not draws[name] & set(draws)]
            self.assertNotEqual(free, [], draws)
            for name in free:
                del draws[name]

    def test_classes(self):
        methods, values, asked = set(), set(), set()
        for name, tree in self.trees.items():
            classes = [node for node in tree.body if isinstance(node, ast.ClassDef)]
            self.assertEqual(len(classes), sum(isinstance(node, ast.ClassDef) for node in ast.walk(tree)), name)
            for one in classes:
                found = [part.name for part in one.body if isinstance(part, ast.FunctionDef)]
                self.assertEqual(len(found), len(set(found)), one.name)
                methods |= set(found)
            for node in ast.walk(tree):
                if isinstance(node, ast.Attribute):
                    (values if isinstance(node.ctx, ast.Store) else asked).add(node.attr)
        self.assertEqual(methods & values, set())
        self.assertLessEqual(asked, methods | values | PYTHONS_METHODS)
        kinds = (str, int, list, dict, set, bytes)
        self.assertEqual({name for name in values | methods - METHODS for kind in kinds if hasattr(kind, name)}, set())

    def test_the_top_of_a_file(self):
        for name, tree in self.trees.items():
            bound = []
            for node in tree.body:
                self.assertIsInstance(node, (ast.Expr, ast.ImportFrom, ast.FunctionDef, ast.ClassDef, ast.Assign), name)
                if isinstance(node, ast.ImportFrom):
                    bound += [alias.asname or alias.name for alias in node.names]
                elif isinstance(node, ast.Assign):
                    bound += [target.id for target in node.targets]
                    self.assertFalse(any(isinstance(part, ast.Call) for part in ast.walk(node)), name)
                elif not isinstance(node, ast.Expr):
                    bound.append(node.name)
            self.assertEqual(len(bound), len(set(bound)), name)

    def test_raised_on_the_spot_and_taken_by_name(self):
        own = {node.name for node in self.trees["errors.py"].body if isinstance(node, ast.ClassDef)}
        for name, tree in self.trees.items():
            for node in ast.walk(tree):
                if isinstance(node, ast.Raise):
                    self.assertIn(ast.unparse(node.exc.func), own, name)
                    self.assertTrue(node.cause is None or ast.unparse(node.cause) == "None", name)
                if isinstance(node, ast.ExceptHandler):
                    taken = node.type.elts if isinstance(node.type, ast.Tuple) else [node.type]
                    self.assertLessEqual({ast.unparse(one) for one in taken}, own, name)

    def test_what_is_walked_on_the_spot(self):
        for name, tree in self.trees.items():
            kept = [node.value for node in ast.walk(tree) if isinstance(node, (ast.Assign, ast.Return))]
            for value in kept:
                if isinstance(value, ast.Call):
                    self.assertNotRegex(
                        ast.unparse(value.func), r"^(zip|enumerate|reversed|range|set)$|\.(items|keys|values)$", name,
                    )

    def test_names(self):
        for name, tree in self.trees.items():
            for bound in names_bound(tree):
                self.assertTrue(bound in METHODS or not bound.startswith("_"), (name, bound))
            for node in ast.walk(tree):
                if isinstance(node, ast.Name) and hasattr(builtins, node.id):
                    self.assertIn(node.id, OWN_NAMES, name)
                    self.assertIsInstance(node.ctx, ast.Load, (name, node.id))
                if isinstance(node, ast.arg):
                    self.assertFalse(hasattr(builtins, node.arg), (name, node.arg))


if __name__ == "__main__":
    unittest.main()

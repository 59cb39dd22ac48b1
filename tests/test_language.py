"""The rules of the language that a reading of the package's files can show to be kept."""

import ast
import builtins
import pathlib
import tokenize
import unittest

PACKAGE = pathlib.Path(__file__).resolve().parent.parent / "underthree"
FILES = {path.stem: path for path in sorted(PACKAGE.rglob("*.py"))}
TREES = {name: ast.parse(path.read_text("ascii")) for name, path in FILES.items()}

BUILTINS = {"len", "range", "enumerate", "zip", "min", "max", "sum", "abs", "sorted", "reversed", "int", "str", "bool", "list",
            "tuple", "dict", "set", "isinstance", "ord", "repr", "any", "all", "divmod", "ValueError", "KeyError", "map", "super"}
METHODS = set("""append clear copy count endswith extend find get index insert isalnum isalpha isdigit islower isspace isupper
items join keys ljust lower lstrip partition pop remove replace reverse rfind rjust rpartition rsplit rstrip setdefault split
splitlines startswith strip update upper values zfill bit_length isascii add discard""".split())
LIBRARY = {"math": {"gcd", "lcm", "isqrt", "comb", "perm", "factorial"}}
BARRED_NODES = (
    ast.Lambda, ast.GeneratorExp, ast.SetComp, ast.Yield, ast.YieldFrom, ast.Global, ast.AsyncFunctionDef, ast.Await,
    ast.With, ast.NamedExpr, ast.Match, ast.Delete, ast.AnnAssign, ast.Div, ast.Import,
)
BARRED_NAMES = {"register", "mro", "elements", "open", "input", "law", "version_info", "with_traceback", "add_note",
                "type", "typing", "typing_extensions", "enum", "Enum", "namedtuple", "dataclass", "overload", "abstractmethod"}
ON_THE_SPOT = {"zip", "enumerate", "reversed", "range"}
TAKERS = {"list", "tuple", "dict", "sorted", "sum", "any", "all", "enumerate", "zip", "min", "max"}


def parents_of(tree):
    return {child: node for node in ast.walk(tree) for child in ast.iter_child_nodes(node)}


def imports_of(tree):
    return [node for node in ast.walk(tree) if isinstance(node, ast.ImportFrom)]


def bound_names(tree):
    """Names of functions, classes, parameters and variables."""
    for node in ast.walk(tree):
        if isinstance(node, (ast.FunctionDef, ast.ClassDef)):
            yield node.name
        elif isinstance(node, ast.arg):
            yield node.arg
        elif isinstance(node, ast.Name) and isinstance(node.ctx, ast.Store):
            yield node.id


class TestLanguage(unittest.TestCase):
    def test_the_folder(self):
        for path in PACKAGE.rglob("*"):
            if "__pycache__" not in path.parts:
                self.assertTrue(path.suffix == ".py" and path.stem == path.stem.lower(), path)
                self.assertNotIn(path.stem, dir(builtins))
        self.assertLessEqual(len(FILES), 100)

    def test_sizes_and_characters(self):
        for name, path in FILES.items():
            data = path.read_bytes()
            self.assertTrue(all(32 <= byte <= 126 or byte == 10 for byte in data), name)
            lines = data.decode("ascii").splitlines()
            self.assertLessEqual(len(lines), 399, name)
            self.assertLessEqual(max(map(len, lines), default=0), 120, name)
            for node in ast.walk(TREES[name]):
                if isinstance(node, ast.FunctionDef):
                    self.assertLessEqual(node.end_lineno - node.lineno + 1, 40, node.name)
                    self.assertEqual(node.decorator_list, [])

    def test_imports(self):
        for name, tree in TREES.items():
            others = [node for node in tree.body if not isinstance(node, ast.ImportFrom)]
            docstring, rest = others[0], others[1:]
            self.assertIsInstance(docstring, ast.Expr)
            last = max([node.lineno for node in imports_of(tree)], default=0)
            self.assertTrue(all(node.lineno > last for node in rest), name)
            for node in imports_of(tree):
                self.assertEqual(node.level, 0)
                for alias in node.names:
                    self.assertIsNone(alias.asname)
                    if node.module in LIBRARY:
                        self.assertIn(alias.name, LIBRARY[node.module])
                        continue
                    folder, _, file = node.module.partition(".")
                    self.assertEqual(folder, "underthree")
                    self.assertIn(alias.name, top_names(TREES[file]), (name, alias.name))

    def test_imports_are_used_and_not_hidden(self):
        for name, tree in TREES.items():
            imported = [alias.name for node in imports_of(tree) for alias in node.names]
            used = {node.id for node in ast.walk(tree) if isinstance(node, ast.Name) and isinstance(node.ctx, ast.Load)}
            bound = set(bound_names(tree))
            self.assertEqual(len(imported), len(set(imported)))
            for word in imported:
                self.assertIn(word, used, name)
                self.assertNotIn(word, bound, name)

    def test_no_circle_of_imports(self):
        ahead = {name: {node.module.partition(".")[2] for node in imports_of(tree) if node.module not in LIBRARY}
                 for name, tree in TREES.items()}
        while ahead:
            free = [name for name, needed in ahead.items() if not needed & set(ahead)]
            self.assertTrue(free, ahead)
            for name in free:
                del ahead[name]

    def test_module_level(self):
        for name, tree in TREES.items():
            for node in tree.body[1:]:
                self.assertIsInstance(node, (ast.ImportFrom, ast.FunctionDef, ast.ClassDef, ast.Assign), name)
            top = [node.targets for node in tree.body if isinstance(node, ast.Assign)]
            self.assertTrue(all(len(targets) == 1 and isinstance(targets[0], ast.Name) for targets in top))
            words = top_names(tree)
            self.assertEqual(len(words), len(set(words)), name)

    def test_barred_nodes(self):
        for name, tree in TREES.items():
            for node in ast.walk(tree):
                self.assertNotIsInstance(node, BARRED_NODES, (name, getattr(node, "lineno", 0)))
                if isinstance(node, ast.Constant):
                    self.assertNotIsInstance(node.value, (float, complex, bytes))
                    self.assertNotIn("%", str(node.value), name)
                if isinstance(node, (ast.FunctionDef, ast.arg)):
                    self.assertIsNone(getattr(node, "returns", None))
                    self.assertIsNone(getattr(node, "annotation", None))
                if isinstance(node, ast.FunctionDef):
                    inner = [child for child in ast.walk(node) if isinstance(child, ast.FunctionDef) and child is not node]
                    self.assertEqual(inner, [])
                if isinstance(node, ast.BinOp) and isinstance(node.op, ast.Pow):
                    self.assertIsInstance(node.right, ast.Constant)
                if isinstance(node, ast.Compare) and any(isinstance(op, (ast.Is, ast.IsNot)) for op in node.ops):
                    self.assertTrue(all(isinstance(side, ast.Constant) for side in node.comparators), name)

    def test_names(self):
        for name, tree in TREES.items():
            for word in bound_names(tree):
                self.assertNotIn(word, dir(builtins), name)
                self.assertNotIn(word, BARRED_NAMES, name)
                if word not in ("__init__", "__eq__", "__len__"):
                    self.assertFalse(word.startswith("__"), word)
            for node in ast.walk(tree):
                if isinstance(node, ast.Name) and node.id == "_":
                    self.assertIsInstance(node.ctx, ast.Store, name)
            with open(FILES[name], "rb") as file:
                for token in tokenize.tokenize(file.readline):
                    if token.type == tokenize.NAME:
                        self.assertNotIn(token.string, BARRED_NAMES, name)

    def test_calls(self):
        own = {node.name for tree in TREES.values() for node in ast.walk(tree)
               if isinstance(node, (ast.FunctionDef, ast.ClassDef))}
        for name, tree in TREES.items():
            local = set(bound_names(tree)) | {alias.name for node in imports_of(tree) for alias in node.names}
            for node in ast.walk(tree):
                if isinstance(node, ast.Name) and node.id in dir(builtins):
                    self.assertIn(node.id, BUILTINS, name)
                if isinstance(node, ast.Call) and isinstance(node.func, ast.Name):
                    self.assertIn(node.func.id, local | BUILTINS, name)
                if isinstance(node, ast.Call) and isinstance(node.func, ast.Attribute):
                    self.assertIn(node.func.attr, METHODS | own, name)
                    self.assertEqual(node.keywords, [], name)

    def test_iterated_on_the_spot(self):
        for name, tree in TREES.items():
            parents = parents_of(tree)
            for node in ast.walk(tree):
                if not isinstance(node, ast.Call) or not isinstance(node.func, ast.Name) or node.func.id not in ON_THE_SPOT:
                    continue
                parent = parents[node]
                at = (name, node.lineno)
                if isinstance(parent, (ast.For, ast.comprehension)):
                    self.assertIs(parent.iter, node, at)
                elif isinstance(parent, ast.Call):
                    word = parent.func.id if isinstance(parent.func, ast.Name) else ""
                    self.assertTrue(word in TAKERS or (word == "reversed" and node.func.id == "range"), at)
                else:
                    self.assertTrue(isinstance(parent, ast.Compare) and node.func.id == "range", at)

    def test_sets_are_not_kept(self):
        for name, tree in TREES.items():
            parents = parents_of(tree)
            for node in ast.walk(tree):
                if isinstance(node, ast.Call) and isinstance(node.func, ast.Name) and node.func.id == "set":
                    parent = parents[node]
                    self.assertTrue(isinstance(parent, ast.Call) and parent.func.id in ("sorted", "len"), name)
                self.assertNotIsInstance(node, ast.Set, name)

    def test_own_errors_alone_are_caught(self):
        own = {name for name in top_names(TREES["errors"])}
        for name, tree in TREES.items():
            for node in ast.walk(tree):
                if isinstance(node, ast.Try):
                    self.assertEqual((len(node.handlers), node.orelse, node.finalbody), (1, [], []), name)
                    handler = node.handlers[0]
                    self.assertIn(handler.type.id, own, name)
                    # The error is named, and of it its own fields are read alone.
                    reads = [one for one in ast.walk(handler) if isinstance(one, ast.Name) and one.id == handler.name]
                    fields = [one.value for one in ast.walk(handler) if isinstance(one, ast.Attribute)]
                    self.assertEqual(reads, fields, name)

    def test_super_is_called_in_an_init(self):
        for name, tree in TREES.items():
            for node in ast.walk(tree):
                if isinstance(node, ast.FunctionDef) and node.name != "__init__":
                    words = [one.id for one in ast.walk(node) if isinstance(one, ast.Name)]
                    self.assertNotIn("super", words, name)

    def test_errors_are_made_on_the_spot(self):
        for name, tree in TREES.items():
            for node in ast.walk(tree):
                if isinstance(node, ast.Raise):
                    self.assertIsNone(node.cause)
                    self.assertIsInstance(node.exc, ast.Call, name)
                    self.assertIn(node.exc.func.id, top_names(TREES["errors"]))
                    self.assertFalse([one for one in node.exc.args if isinstance(one, ast.Starred)])


def top_names(tree):
    """The names that a file binds, imports left out."""
    names = [node.name for node in tree.body if isinstance(node, (ast.FunctionDef, ast.ClassDef))]
    return names + [node.targets[0].id for node in tree.body if isinstance(node, ast.Assign)]


if __name__ == "__main__":
    unittest.main()

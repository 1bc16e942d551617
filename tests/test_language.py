"""Rules of LANGUAGE.md that can be read off the code; some are kept more strictly than they stand there."""

import ast
import builtins
import pathlib
import re
import unittest

PACKAGE = pathlib.Path(__file__).resolve().parent.parent / "onecrest"
FILES = {path.stem: path.read_text(encoding="utf-8") for path in sorted(PACKAGE.glob("*.py"))}
TREES = {name: ast.parse(text) for name, text in FILES.items()}
LIBRARY = {"math": "gcd lcm isqrt comb perm factorial", "itertools": "product combinations permutations",
           "heapq": "heappush heappop heapify"}
CALLED = set("len range enumerate zip min max sum abs sorted reversed int str bool list tuple dict set isinstance ord "
             "repr any all divmod".split())
ERRORS = set("Exception ValueError TypeError KeyError IndexError LookupError ZeroDivisionError ArithmeticError "
             "OverflowError RuntimeError NotImplementedError AttributeError StopIteration".split())
METHODS = set("append clear copy count endswith extend find get index insert isalnum isalpha isdigit islower isspace "
              "isupper items join keys ljust lower lstrip partition pop remove replace reverse rfind rjust rpartition "
              "rsplit rstrip setdefault split splitlines startswith strip update upper values zfill bit_length "
              "add discard".split())
DUNDERS = set("init eq repr str len enter exit call iter lt le gt ge ne add sub mul floordiv mod radd rsub rmul neg "
              "pos abs bool contains getitem setitem".split())
BARRED = set("register mro elements open input law version_info with_traceback add_note attrgetter breakpoint builtins "
             "compile copyright credits delattr dir eval exec exit gc getattr globals hasattr help id importlib "
             "license locals methodcaller os quit setattr super type vars sys".split())
WORDS = re.compile(r"\b(type|typing|typing_extensions|enum|Enum|IntEnum|StrEnum|Flag|IntFlag|Generic|Protocol|ABC|"
                   r"ABCMeta|namedtuple|NamedTuple|TypedDict|TYPE_CHECKING|abstractmethod)\b|dataclass|overload|"
                   r"contextmanager|_wall|_WallAttr|\(type\)|Meta|metaclass=")
AT_ONCE = set("list tuple dict sorted sum any all enumerate zip min max join".split())


def nodes(kinds):
    for name, tree in TREES.items():
        for node in ast.walk(tree):
            if isinstance(node, kinds):
                yield name, node


def parents(tree):
    return {child: node for node in ast.walk(tree) for child in ast.iter_child_nodes(node)}


def bound(tree):
    """All names that a file binds anywhere, but for its imports."""
    for node in ast.walk(tree):
        if isinstance(node, (ast.FunctionDef, ast.ClassDef)):
            yield node.name
        elif isinstance(node, ast.arg):
            yield node.arg
        elif isinstance(node, ast.Name) and isinstance(node.ctx, ast.Store):
            yield node.id


def defined(tree):
    for node in tree.body:
        if isinstance(node, (ast.FunctionDef, ast.ClassDef)):
            yield node.name
        elif isinstance(node, ast.Assign):
            yield node.targets[0].id


def own_methods():
    return {part.name for _, node in nodes(ast.ClassDef) for part in node.body if isinstance(part, ast.FunctionDef)}


class FilesTest(unittest.TestCase):
    def test_folder(self):
        for path in PACKAGE.rglob("*"):
            if "__pycache__" not in path.parts:
                self.assertRegex(path.name, r"\A[a-z0-9_]+\.py\Z")

    def test_characters_and_sizes(self):
        for name, text in FILES.items():
            self.assertRegex(text, r"\A[\n -~]*\Z", name)
            lines = text.split("\n")
            self.assertLess(len(lines), 400, name)
            self.assertLessEqual(max(len(line) for line in lines), 120, name)
            self.assertIsNone(WORDS.search(text), name)
        for name, node in nodes(ast.FunctionDef):
            self.assertLessEqual(node.end_lineno - node.lineno + 1, 40, (name, node.name))

    def test_imports(self):
        needs = {}
        for name, tree in TREES.items():
            needs[name] = []
            for node in ast.walk(tree):
                self.assertNotIsInstance(node, ast.Import, name)
                if not isinstance(node, ast.ImportFrom):
                    continue
                self.assertIn(node, tree.body)
                names = [alias.name for alias in node.names]
                self.assertTrue(all(alias.asname is None for alias in node.names), name)
                if node.module in LIBRARY:
                    self.assertLessEqual(set(names), set(LIBRARY[node.module].split()))
                    continue
                package, file = node.module.split(".")
                self.assertEqual((package, node.level), ("onecrest", 0))
                self.assertLessEqual(set(names), set(defined(TREES[file])), name)
                needs[name].append(file)
        while needs:
            free = [name for name in needs if not set(needs[name]) & set(needs)]
            self.assertTrue(free, needs)
            for name in free:
                del needs[name]

    def test_module_level(self):
        for name, tree in TREES.items():
            for at, node in enumerate(tree.body):
                self.assertTrue(isinstance(node, (ast.ImportFrom, ast.FunctionDef, ast.ClassDef, ast.Assign))
                                or at == 0 and isinstance(node.value, ast.Constant), (name, node.lineno))
                if isinstance(node, ast.Assign):
                    self.assertEqual(len(node.targets), 1)
                    table = node.value
                    if isinstance(table, ast.Dict) and any(isinstance(part, ast.Name) for part in table.values):
                        # a table of functions of this file, all defined above it
                        above = {part.name for part in tree.body[:at] if isinstance(part, ast.FunctionDef)}
                        self.assertLessEqual({part.id for part in table.values}, above, name)
                        table = ast.List(table.keys)
                    ast.literal_eval(table)
            names = list(defined(tree)) + [alias.name for node in tree.body if isinstance(node, ast.ImportFrom)
                                           for alias in node.names]
            self.assertEqual(len(names), len(set(names)), name)


class NamesTest(unittest.TestCase):
    def test_names_of_other_things(self):
        for name, tree in TREES.items():
            imported = {alias.name for node in ast.walk(tree) if isinstance(node, ast.ImportFrom)
                        for alias in node.names}
            classes = {node.name for node in ast.walk(tree) if isinstance(node, ast.ClassDef)}
            for word in bound(tree):
                self.assertNotIn(word, BARRED, name)
                self.assertNotIn(word, imported, name)
                self.assertFalse(hasattr(builtins, word) and word[:2] != "__", (name, word))
                self.assertRegex(word, r"\A(_?[A-Za-z][A-Za-z0-9_]*|_|__[a-z]+__)\Z", name)
                if word.startswith("__"):
                    self.assertIn(word.strip("_"), DUNDERS)
            for node in ast.walk(tree):
                if isinstance(node, ast.arg) or isinstance(node, ast.Name) and isinstance(node.ctx, ast.Store):
                    self.assertNotIn(node.arg if isinstance(node, ast.arg) else node.id, classes, name)
                if isinstance(node, ast.Name) and isinstance(node.ctx, ast.Load):
                    self.assertNotEqual(node.id, "_", name)

    def test_builtins(self):
        for name, tree in TREES.items():
            above = parents(tree)
            own = set(bound(tree))
            for node in ast.walk(tree):
                if not isinstance(node, ast.Name) or node.id in own or not hasattr(builtins, node.id):
                    continue
                front = above[node]
                if node.id in ERRORS:
                    self.assertIsInstance(front, (ast.ClassDef, ast.Raise, ast.Call))
                elif node.id in ("property", "classmethod", "staticmethod"):
                    self.assertIn(node, front.decorator_list)
                elif isinstance(front, ast.Call) and front.func is node:
                    self.assertIn(node.id, CALLED, (name, node.lineno))
                else:
                    self.assertIn(node.id, ("int", "str", "bool", "list", "tuple", "dict", "len"), (name, node.lineno))

    def test_methods(self):
        known = METHODS | own_methods()
        for name, node in nodes(ast.Call):
            if isinstance(node.func, ast.Attribute):
                self.assertIn(node.func.attr, known, (name, node.lineno))
                if node.func.attr in METHODS:
                    self.assertEqual(node.keywords, [], (name, node.lineno))
                    self.assertNotIn(node.func.attr, ("sort",))

    def test_attributes_and_methods_are_unlike(self):
        for name, node in nodes(ast.ClassDef):
            methods = [part.name for part in node.body if isinstance(part, ast.FunctionDef)]
            stored = {part.attr for part in ast.walk(node)
                      if isinstance(part, ast.Attribute) and isinstance(part.ctx, ast.Store)}
            self.assertEqual(len(methods), len(set(methods)), name)
            self.assertFalse(stored & set(methods), name)


class StatementsTest(unittest.TestCase):
    def test_kinds(self):
        barred = (ast.Global, ast.AsyncFunctionDef, ast.Await, ast.GeneratorExp, ast.Yield, ast.YieldFrom, ast.Div,
                  ast.Lambda, ast.AnnAssign, ast.NamedExpr, ast.MatMult, ast.Delete)
        for name, node in nodes(barred):
            self.fail((name, type(node).__name__, getattr(node, "lineno", None)))
        for name, node in nodes(ast.arguments):
            self.assertFalse(node.kwarg or node.kwonlyargs or node.posonlyargs, name)

    def test_stars(self):
        for name, tree in TREES.items():
            above = parents(tree)
            for node in ast.walk(tree):
                if isinstance(node, ast.Starred):
                    self.assertIsInstance(node.value, ast.Name, name)
                    self.assertIsInstance(above[node], ast.Call, name)
                    self.assertEqual(above[node].args, [node], name)

    def test_errors_caught(self):
        own = set(defined(TREES["errors"]))
        for name, node in nodes(ast.Try):
            self.assertFalse(node.finalbody or node.orelse, (name, node.lineno))
            for handler in node.handlers:
                kinds = handler.type.elts if isinstance(handler.type, ast.Tuple) else [handler.type]
                self.assertLessEqual({kind.id for kind in kinds}, own, (name, node.lineno))
        for name, node in nodes(ast.Raise):
            self.assertIsInstance(node.exc, ast.Call, (name, node.lineno))
            self.assertIn(node.exc.func.id, own | {"TypeError"}, (name, node.lineno))

    def test_blocks(self):
        """A block is over a call of an own class; behind it attributes are put back, and no more."""
        for name, node in nodes(ast.With):
            self.assertTrue(all(isinstance(item.context_expr, ast.Call) for item in node.items), name)
        for name, node in nodes(ast.FunctionDef):
            if node.name == "__exit__":
                for row in node.body:
                    self.assertIsInstance(row, ast.Assign, name)
                    self.assertIsInstance(row.value, ast.Attribute, name)
            if node.name == "__iter__":
                self.assertEqual([type(row) for row in node.body], [ast.Raise], name)

    def test_added_to(self):
        # numbers of the package have `+`: only a literal INTEGER is added in place
        for name, node in nodes(ast.AugAssign):
            self.assertIsInstance(node.value, ast.Constant, (name, node.lineno))
            self.assertIsInstance(node.value.value, int)

    def test_decorators(self):
        for name, tree in TREES.items():
            above = parents(tree)
            for node in ast.walk(tree):
                if isinstance(node, ast.ClassDef):
                    self.assertEqual(node.decorator_list, [])
                if isinstance(node, ast.FunctionDef) and node.decorator_list:
                    self.assertIsInstance(above[node], ast.ClassDef, name)
                    self.assertIn(ast.unparse(node.decorator_list[0]), ("property", "classmethod", "staticmethod"))

    def test_identity(self):
        for name, node in nodes(ast.Compare):
            for sign, right in zip(node.ops, node.comparators):
                if isinstance(sign, (ast.Is, ast.IsNot)):
                    self.assertIsInstance(right, ast.Constant, (name, node.lineno))

    def test_exponents(self):
        for name, node in nodes(ast.BinOp):
            if isinstance(node.op, ast.Pow):
                self.assertIsInstance(node.right, ast.Constant, (name, node.lineno))

    def test_iterated_at_once(self):
        for name, tree in TREES.items():
            above = parents(tree)
            for node in ast.walk(tree):
                if not isinstance(node, ast.Call):
                    continue
                word = node.func.id if isinstance(node.func, ast.Name) else getattr(node.func, "attr", "")
                if word in ("zip", "enumerate", "reversed", "range", "items", "keys", "values", "product",
                            "combinations", "permutations"):
                    front = above[node]
                    if isinstance(front, (ast.For, ast.comprehension)):
                        self.assertIs(front.iter, node)
                    else:
                        self.assertIsInstance(front, ast.Call, (name, node.lineno))
                        told = front.func.id if isinstance(front.func, ast.Name) else front.func.attr
                        self.assertIn(told, AT_ONCE, (name, node.lineno))

    def test_sets(self):
        for name, tree in TREES.items():
            above = parents(tree)
            for node in ast.walk(tree):
                made = isinstance(node, ast.Call) and isinstance(node.func, ast.Name) and node.func.id == "set"
                if not made and not isinstance(node, (ast.Set, ast.SetComp)):
                    continue
                front = above[node]
                if isinstance(front, ast.Call):
                    self.assertIn(front.func.id, ("sorted", "len"), (name, node.lineno))
                else:
                    self.assertIsInstance(front, (ast.Compare, ast.Assign), (name, node.lineno))

    def test_strings(self):
        for name, text in FILES.items():
            self.assertIsNone(re.search(r"\\[^nt\\'\"]", text), name)
        for name, node in nodes(ast.Constant):
            self.assertNotIsInstance(node.value, (float, complex, bytes), name)
            if isinstance(node.value, str):
                self.assertNotIn("%", node.value, name)

    def test_double_underscore_methods(self):
        for name, node in nodes(ast.FunctionDef):
            if node.name in ("__len__", "__str__", "__repr__"):
                self.assertIsInstance(node.body[-1], ast.Return, name)
            if node.name == "__init__":
                self.assertFalse([part for part in ast.walk(node) if isinstance(part, ast.Return)], name)

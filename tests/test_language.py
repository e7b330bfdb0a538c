"""The package keeps to its subset of Python, as far as a look at its files can tell."""

import ast
import builtins
import re
from pathlib import Path
from unittest import TestCase

PACKAGE = Path(__file__).resolve().parent.parent / "sendershade"
FILES = sorted(path for path in PACKAGE.rglob("*") if path.is_file() and "__pycache__" not in path.parts)

# A file draws from those ahead of it alone.
ORDER = ("forms", "errors", "tokens", "covers", "nets", "luck", "bins", "worlds", "plans", "views", "sights", "threads",
         "swaps", "shades", "shares", "tables", "alike", "least", "runs", "finds", "games", "goals", "rounds", "shapes",
         "judge", "lines", "texts", "shell")

LIBRARY = {"math": {"gcd", "lcm", "isqrt", "comb", "perm", "factorial"},
           "itertools": {"product", "combinations", "permutations", "chain", "accumulate", "pairwise", "islice",
                         "zip_longest"},
           "heapq": {"heappush", "heappop", "heapify", "heapreplace", "heappushpop"},
           "collections": {"defaultdict"}}
BUILTINS = set("len range enumerate zip min max sum abs sorted reversed int str bool list tuple dict set isinstance "
               "ord repr any all divmod map iter next Exception ValueError TypeError KeyError IndexError LookupError "
               "ZeroDivisionError".split())
METHODS = set("append clear copy count endswith extend find get index insert isalnum isalpha isdigit islower isspace "
              "isupper items join keys ljust lower lstrip partition pop remove replace reverse rfind rjust rpartition "
              "rsplit rstrip setdefault split splitlines startswith strip update upper values zfill bit_length sort "
              "add discard isascii isdecimal".split())
STATEMENTS = (ast.Assign, ast.AugAssign, ast.If, ast.While, ast.For, ast.Return, ast.Break, ast.Continue, ast.Pass,
              ast.Raise, ast.Delete, ast.Try, ast.Expr, ast.FunctionDef)
EXPRESSIONS = (ast.BoolOp, ast.BinOp, ast.UnaryOp, ast.Lambda, ast.IfExp, ast.Dict, ast.ListComp, ast.SetComp,
               ast.DictComp, ast.GeneratorExp, ast.Compare, ast.Call, ast.FormattedValue, ast.JoinedStr, ast.Constant,
               ast.Attribute, ast.Subscript, ast.Starred, ast.Name, ast.List, ast.Tuple, ast.Slice)
BARRED_NAMES = set("register mro elements open input law version_info with_traceback add_note attrgetter breakpoint "
                   "builtins compile copyright credits delattr dir eval exec exit gc getattr globals hasattr help id "
                   "importlib license locals methodcaller os quit setattr super type vars sys frozenset chr bytes "
                   "pow print".split())
BARRED_WORDS = re.compile(r"\b(type|typing|enum|Enum|IntEnum|StrEnum|Flag|IntFlag|Generic|Protocol|ABC|ABCMeta|"
                          r"namedtuple|NamedTuple|TypedDict|TYPE_CHECKING|abstractmethod)\b")


def functions_of(tree):
    return [node for node in ast.walk(tree) if isinstance(node, ast.FunctionDef)]


def imported(tree):
    return [name.name for node in tree.body if isinstance(node, ast.ImportFrom) for name in node.names]


def bound_in(function):
    """All names that a function binds: parameters, targets, the variables of comprehensions."""
    args = function.args
    told = [arg.arg for arg in args.posonlyargs + args.args + args.kwonlyargs]
    told += [node.id for node in ast.walk(function) if isinstance(node, ast.Name) and isinstance(node.ctx, ast.Store)]
    return told + [node.name for node in ast.walk(function) if isinstance(node, ast.ExceptHandler) and node.name]


class TestLanguage(TestCase):

    def setUp(self):
        self.texts = {path.stem: path.read_text(encoding="utf-8") for path in FILES if path.suffix == ".py"}
        self.trees = {name: ast.parse(text) for name, text in self.texts.items()}

    def test_files(self):
        for path in FILES:
            self.assertRegex(path.name, r"^[a-z0-9_]+\.py$")
            self.assertEqual(path.parent, PACKAGE)
        self.assertEqual(set(self.trees) - {"__init__"}, set(ORDER))

    def test_sizes_and_characters(self):
        for name, text in self.texts.items():
            self.assertLessEqual(len(text.split("\n")), 399, name)
            self.assertRegex(text, r"\A[ -~\n]*\Z", name)
            self.assertLessEqual(max(len(line) for line in text.split("\n")), 120, name)
            for node in functions_of(self.trees[name]):
                self.assertLessEqual(node.end_lineno - node.lineno + 1, 40, f"{name}.{node.name}")

    def test_imports(self):
        for name, tree in self.trees.items():
            places = [place for place, node in enumerate(tree.body) if isinstance(node, (ast.Import, ast.ImportFrom))]
            self.assertEqual(places, list(range(1, len(places) + 1)), name)
            for node in [tree.body[place] for place in places]:
                self.assertTrue(isinstance(node, ast.ImportFrom) and node.level == 0, name)
                self.assertTrue(all(alias.asname is None for alias in node.names), name)
                self.check_import(name, node)

    def check_import(self, name, node):
        names = {alias.name for alias in node.names}
        if node.module in LIBRARY:
            self.assertLessEqual(names, LIBRARY[node.module], name)
            return
        package, file = node.module.split(".")
        self.assertEqual(package, "sendershade")
        self.assertLess(ORDER.index(file), ORDER.index(name))
        told = {own.name for own in self.trees[file].body if isinstance(own, (ast.FunctionDef, ast.ClassDef))}
        self.assertLessEqual(names, told, f"{name} from {file}")

    def test_module_level(self):
        for name, tree in self.trees.items():
            self.assertTrue(ast.get_docstring(tree), name)
            bound = imported(tree)
            for node in tree.body[1:]:
                self.assertIsInstance(node, (ast.ImportFrom, ast.FunctionDef, ast.ClassDef, ast.Assign), name)
                if isinstance(node, ast.Assign):
                    self.check_value(node.value, bound)
                    bound.append(node.targets[0].id)
                elif not isinstance(node, ast.ImportFrom):
                    bound.append(node.name)
            self.assertEqual(len(bound), len(set(bound)), name)
            self.assertFalse(set(bound) & (set(dir(builtins)) | BARRED_NAMES), name)

    def check_value(self, value, bound):
        """value is a literal, or a dict of literals and of functions defined above."""
        if not isinstance(value, ast.Dict) or not isinstance(value.values[0], ast.Name):
            ast.literal_eval(value)
            return
        for key, part in zip(value.keys, value.values):
            ast.literal_eval(key)
            self.assertIn(part.id, bound)

    def test_tables_are_read_only(self):
        for name, tree in self.trees.items():
            tables = {node.targets[0].id for node in tree.body if isinstance(node, ast.Assign)
                      and isinstance(node.value, (ast.Dict, ast.List))}
            fit = []
            for node in ast.walk(tree):
                if isinstance(node, ast.Subscript) and isinstance(node.ctx, ast.Load):
                    fit.append(node.value)
                elif isinstance(node, ast.Compare):
                    fit.extend(node.comparators)
            for node in [node for function in functions_of(tree) for node in ast.walk(function)]:
                if isinstance(node, ast.Name) and node.id in tables:
                    self.assertIn(node, fit, f"{name}:{node.lineno}")

    def test_nodes(self):
        for name, tree in self.trees.items():
            for node in [node for function in functions_of(tree) for node in ast.walk(function)]:
                if isinstance(node, ast.stmt):
                    self.assertIsInstance(node, STATEMENTS, f"{name}:{node.lineno}")
                elif isinstance(node, ast.expr):
                    self.assertIsInstance(node, EXPRESSIONS, f"{name}:{node.lineno}")
                self.assertNotIsInstance(node, (ast.Div, ast.Pow, ast.MatMult), name)
                if isinstance(node, ast.Constant):
                    self.assertIsInstance(node.value, (int, str, type(None)), name)
                    self.assertNotIn("%", str(node.value), name)
                if isinstance(node, ast.FunctionDef):
                    self.assertEqual(node.decorator_list, [], name)

    def test_names(self):
        for name, tree in self.trees.items():
            taken = set(imported(tree)) | {node.name for node in tree.body
                                           if isinstance(node, (ast.ClassDef, ast.FunctionDef))}
            for function in functions_of(tree):
                bound = set(bound_in(function))
                self.assertFalse(bound & (set(dir(builtins)) | BARRED_NAMES | taken), f"{name}.{function.name}")
                self.assertTrue(all(re.match(r"^(_|_?[a-z][A-Za-z0-9_]*)$", own) for own in bound), name)
            known = set(dir(builtins))
            used = {node.id for node in ast.walk(tree) if isinstance(node, ast.Name)}
            self.assertLessEqual(used & known, BUILTINS, name)

    def test_methods_and_words(self):
        own = {node.name for tree in self.trees.values() for node in functions_of(tree)}
        for name, tree in self.trees.items():
            for node in ast.walk(tree):
                if isinstance(node, ast.Call) and isinstance(node.func, ast.Attribute):
                    self.assertIn(node.func.attr, METHODS | own | {"__init__"}, f"{name}:{node.lineno}")
                if isinstance(node, ast.Compare) and any(isinstance(op, (ast.Is, ast.IsNot)) for op in node.ops):
                    self.assertIsInstance(node.comparators[0], ast.Constant, f"{name}:{node.lineno}")
            self.assertIsNone(BARRED_WORDS.search(self.texts[name]), name)

    def test_iterated_at_once(self):
        whole = {"list", "tuple", "dict", "sorted", "sum", "any", "all", "enumerate", "zip", "min", "max"}
        over_ranges = {"reversed", "permutations", "combinations", "product"}
        for name, tree in self.trees.items():
            fit = []
            for node in ast.walk(tree):
                if isinstance(node, (ast.For, ast.comprehension)):
                    fit.append(node.iter)
                elif isinstance(node, ast.Call) and isinstance(node.func, ast.Name) and node.func.id in whole:
                    fit.extend(node.args[:1])
                elif isinstance(node, ast.Call) and isinstance(node.func, ast.Name) and node.func.id in over_ranges:
                    fit.extend(own for own in node.args if isinstance(own, ast.Call) and own.func.id == "range")
            for node in [node for node in ast.walk(tree) if isinstance(node, ast.Call) and node not in fit]:
                if isinstance(node.func, ast.Name):
                    self.assertNotIn(node.func.id, {"zip", "enumerate", "range"} | over_ranges, f"{name}:{node.lineno}")
                elif isinstance(node.func, ast.Attribute):
                    self.assertNotIn(node.func.attr, ("items", "keys", "values"), f"{name}:{node.lineno}")

    def test_sets_are_sorted_at_once(self):
        for name, tree in self.trees.items():
            fit = [node.args[0] for node in ast.walk(tree) if isinstance(node, ast.Call) and node.args
                   and isinstance(node.func, ast.Name) and node.func.id in ("sorted", "len")]
            for node in ast.walk(tree):
                if isinstance(node, (ast.Set, ast.SetComp)) or (isinstance(node, ast.Call)
                                                               and isinstance(node.func, ast.Name)
                                                               and node.func.id == "set"):
                    self.assertIn(node, fit, f"{name}:{node.lineno}")

"""The package keeps to a part of the Python subset that can be checked without running anything."""

import ast
import builtins
import collections
import pathlib
import re
import unittest

PACKAGE = pathlib.Path(__file__).resolve().parent.parent / "neverregret"
FILES = sorted(PACKAGE.rglob("*.py"))
LIBRARY = {
    "heapq": {"heappush", "heappop", "heapify", "heapreplace", "heappushpop"},
    "math": {"gcd", "lcm", "isqrt", "comb", "perm", "factorial"},
}
BUILTINS = set("""len range enumerate zip min max sum abs sorted reversed int str bool bytes list tuple dict set
    isinstance ord repr any all divmod Exception ValueError TypeError KeyError IndexError LookupError
    ZeroDivisionError ArithmeticError OverflowError RuntimeError NotImplementedError""".split())
METHODS = set("""append clear copy count endswith extend find get index insert isalnum isalpha isdigit islower
    isspace isupper items join keys ljust lower lstrip partition pop remove replace reverse rfind rjust
    rpartition rsplit rstrip setdefault split splitlines startswith strip update upper values zfill
    bit_length""".split())
NO_ATTRIBUTES = set("""items keys values pop update append clear extend insert remove reverse setdefault sort args
    encode decode hex fromhex format format_map mro""".split())
NO_NAMES = set("""register mro elements open input law version_info with_traceback add_note attrgetter breakpoint
    builtins compile copyright credits delattr dir eval exec exit gc globals help id importlib license locals
    methodcaller os quit setattr super type vars sys""".split())
NO_WORDS = re.compile(r"\b(typing|typing_extensions|enum|Enum|IntEnum|StrEnum|Flag|IntFlag|Generic|Protocol|ABC|"
                      r"ABCMeta|namedtuple|NamedTuple|TypedDict|TYPE_CHECKING|abstractmethod|_wall|_WallAttr)\b|"
                      r"dataclass|overload|contextmanager")
VIEWS = {"zip", "enumerate", "reversed", "range"}
TAKES_VIEWS = {"list", "tuple", "dict", "sorted", "sum", "any", "all", "enumerate", "zip", "min", "max"}
STATEMENTS = (ast.Assign, ast.AugAssign, ast.If, ast.While, ast.For, ast.Return, ast.Break, ast.Continue, ast.Pass,
              ast.Raise, ast.Assert, ast.Delete, ast.Expr, ast.FunctionDef, ast.ClassDef, ast.ImportFrom, ast.Try)
NOT_USED = (ast.GeneratorExp, ast.NamedExpr, ast.Div, ast.Yield, ast.YieldFrom, ast.Await, ast.Starred)
OWN_DUNDERS = {"__init__", "__eq__", "__repr__", "__str__", "__len__"}


def trees():
    """Return all files with their trees, each node with its parent."""
    found = {}
    for path in FILES:
        tree = ast.parse(path.read_text())
        for node in ast.walk(tree):
            for child in ast.iter_child_nodes(node):
                child.parent = node
        found[path] = tree
    return found


TREES = trees()


def called(node):
    """Return the bare name that a call calls, or None."""
    return node.func.id if isinstance(node, ast.Call) and isinstance(node.func, ast.Name) else None


def bound_names(function):
    """Return the names that a function binds: parameters, targets, nested functions."""
    names = {arg.arg for arg in ast.walk(function) if isinstance(arg, ast.arg) for arg in [arg]}
    for node in ast.walk(function):
        if isinstance(node, ast.Name) and isinstance(node.ctx, ast.Store):
            names.add(node.id)
        if isinstance(node, ast.FunctionDef) and node is not function:
            names.add(node.name)
        if isinstance(node, ast.ExceptHandler) and node.name:
            names.add(node.name)
    return names


def functions(tree):
    """Return all functions and methods of a file."""
    return [node for node in ast.walk(tree) if isinstance(node, ast.FunctionDef)]


def own(kind):
    """Return the names of all functions, or classes, at the top of the files."""
    return {node.name for tree in TREES.values() for node in tree.body if isinstance(node, kind)}


def own_methods():
    """Return the names of all methods of the package."""
    found = set()
    for tree in TREES.values():
        for node in ast.walk(tree):
            if isinstance(node, ast.ClassDef):
                found |= {item.name for item in node.body if isinstance(item, ast.FunctionDef)}
    return found


def module_names(tree):
    """Return the names that a file binds at its top, imports included, with what binds them."""
    names = {}
    for node in tree.body:
        if isinstance(node, (ast.FunctionDef, ast.ClassDef)):
            names[node.name] = node
        elif isinstance(node, ast.Assign):
            names[node.targets[0].id] = node
        elif isinstance(node, ast.ImportFrom):
            for alias in node.names:
                names[alias.name] = node
    return names


class LanguageTest(unittest.TestCase):
    def nodes(self):
        for path, tree in TREES.items():
            for node in ast.walk(tree):
                yield f"{path.name}:{getattr(node, 'lineno', 0)}", node

    def test_files(self):
        self.assertEqual([], [str(path) for path in PACKAGE.rglob("*") if path.is_file() and path.suffix != ".py"
                              and "__pycache__" not in path.parts])
        self.assertLessEqual(len(FILES), 100)
        for path in FILES:
            text = path.read_text()
            self.assertRegex(path.stem, r"^[a-z0-9_]+$")
            self.assertLessEqual(text.count("\n"), 399, path)
            for number, line in enumerate(text.split("\n")):
                self.assertLessEqual(len(line), 120, (path, number + 1))
                self.assertTrue(all(" " <= sign <= "~" for sign in line), (path, number + 1))
            self.assertIsNone(NO_WORDS.search(text), path)
            self.assertIsNotNone(ast.get_docstring(TREES[path]), path)

    def test_imports(self):
        uses = {}
        for path, tree in TREES.items():
            uses[path.stem] = []
            for node in ast.walk(tree):
                self.assertNotIsInstance(node, ast.Import, path)
                if isinstance(node, ast.ImportFrom):
                    self.assertIs(node.parent, tree)
                    self.assertTrue(all(alias.asname is None for alias in node.names))
                    if node.module in LIBRARY:
                        self.assertTrue({alias.name for alias in node.names} <= LIBRARY[node.module])
                        continue
                    package, name = node.module.split(".")
                    self.assertEqual("neverregret", package)
                    uses[path.stem].append(name)
                    there = module_names(TREES[PACKAGE / (name + ".py")])
                    for alias in node.names:
                        self.assertNotIsInstance(there[alias.name], ast.ImportFrom, (path, alias.name))
        while uses:
            free = [name for name in uses if not [other for other in uses[name] if other in uses]]
            self.assertTrue(free, ("imports in a circle", uses))
            for name in free:
                del uses[name]

    def test_names_are_used(self):
        words = collections.Counter()
        for path in FILES + sorted(PACKAGE.parent.glob("tests/*.py")):
            words.update(re.findall(r"\w+", path.read_text()))
        for path, tree in TREES.items():
            read = {node.id for node in ast.walk(tree) if isinstance(node, ast.Name)}
            for name, node in module_names(tree).items():
                if isinstance(node, ast.ImportFrom):
                    self.assertIn(name, read, path)
                else:
                    self.assertGreater(words[name], 1, name)
            for function in functions(tree):
                reads = {node.id for node in ast.walk(function)
                         if isinstance(node, ast.Name) and isinstance(node.ctx, (ast.Load, ast.Del))}
                stored = {node.id for node in ast.walk(function)
                          if isinstance(node, ast.Name) and isinstance(node.ctx, ast.Store)
                          and not isinstance(node.parent, ast.Tuple)}
                self.assertEqual(set(), stored - reads - {"_"}, (path, function.name))

    def test_top_of_files(self):
        for path, tree in TREES.items():
            names = []
            for node in tree.body:
                if isinstance(node, ast.Assign):
                    self.assertEqual(1, len(node.targets))
                    self.assertIsInstance(node.targets[0], ast.Name)
                    ast.literal_eval(node.value)
                elif isinstance(node, ast.Expr):
                    self.assertIs(node, tree.body[0])
                else:
                    self.assertIsInstance(node, (ast.ImportFrom, ast.FunctionDef, ast.ClassDef))
            for node in tree.body:
                if isinstance(node, ast.ImportFrom):
                    names.extend(alias.name for alias in node.names)
                elif isinstance(node, (ast.FunctionDef, ast.ClassDef)):
                    names.append(node.name)
                elif isinstance(node, ast.Assign):
                    names.append(node.targets[0].id)
            self.assertEqual(len(set(names)), len(names), path)
            self.assertFalse(set(names) & set(dir(builtins)), path)

    def test_functions(self):
        for path, tree in TREES.items():
            top = {name for name, node in module_names(tree).items() if not isinstance(node, ast.Assign)}
            for function in functions(tree):
                where = (path.name, function.name)
                self.assertLessEqual(function.end_lineno - function.lineno + 1, 40, where)
                self.assertEqual([], function.decorator_list, where)
                self.assertIsNone(function.args.vararg or function.args.kwarg, where)
                for default in function.args.defaults:
                    self.assertIsInstance(default, ast.Constant, where)
                names = bound_names(function) - {"_"}
                self.assertFalse(names & set(dir(builtins)), where)
                self.assertFalse(names & NO_NAMES, where)
                self.assertFalse(names & top, where)
                self.assertFalse(names & set(module_names(tree)), where)
                for name in names | {function.name}:
                    self.assertRegex(name, r"^(_|_?[a-zA-Z][a-zA-Z0-9_]*|__[a-z]+__)$", where)
                if not isinstance(function.parent, ast.ClassDef):
                    self.assertFalse(function.name.startswith("__"), where)
                if not function.name.startswith("__"):
                    self.assertIsNotNone(ast.get_docstring(function), where)

    def test_classes(self):
        for where, node in self.nodes():
            if isinstance(node, ast.ClassDef):
                self.assertEqual([], node.decorator_list, where)
                self.assertTrue(len(node.bases) <= 1, where)
                methods = [item.name for item in node.body if isinstance(item, ast.FunctionDef)]
                self.assertEqual(len(set(methods)), len(methods), where)
                for item in node.body:
                    self.assertIsInstance(item, (ast.FunctionDef, ast.Expr), where)
                for name in methods:
                    if name.startswith("__"):
                        self.assertIn(name, OWN_DUNDERS, where)
                stored = {item.attr for item in ast.walk(node)
                          if isinstance(item, ast.Attribute) and isinstance(item.ctx, ast.Store)}
                self.assertFalse(stored & set(methods), where)
                self.assertFalse(stored & NO_ATTRIBUTES, where)

    def test_statements_and_expressions(self):
        for where, node in self.nodes():
            if isinstance(node, ast.stmt):
                self.assertIsInstance(node, STATEMENTS, where)
            self.assertNotIsInstance(node, NOT_USED, where)
            if isinstance(node, ast.Compare):
                for operator, right in zip(node.ops, node.comparators):
                    if isinstance(operator, (ast.Is, ast.IsNot)):
                        self.assertTrue(isinstance(right, ast.Constant) and right.value in (None, True, False), where)
            if isinstance(node, ast.Constant) and isinstance(node.value, str):
                self.assertNotIn("%", node.value, where)
                self.assertNotIn("__", node.value, where)
                self.assertFalse(node.value.endswith("._"), where)
            if isinstance(node, ast.Constant):
                self.assertNotIsInstance(node.value, (float, complex, bytes), where)
            if isinstance(node, ast.Raise):
                self.assertTrue(called(node.exc) in own(ast.ClassDef) and node.cause is None, where)
            if isinstance(node, ast.Try):
                for handler in node.handlers:
                    self.assertIn(handler.type.id, own(ast.ClassDef), where)

    def test_calls(self):
        known = own(ast.FunctionDef) | own(ast.ClassDef)
        methods = METHODS | own_methods()
        for where, node in self.nodes():
            if not isinstance(node, ast.Call):
                continue
            if isinstance(node.func, ast.Attribute):
                self.assertIn(node.func.attr, methods, where)
                self.assertEqual([], node.keywords, where)
            else:
                self.assertIsInstance(node.func, ast.Name, where)
                self.assertTrue(node.func.id in known | BUILTINS | LIBRARY["heapq"] | LIBRARY["math"], where)
                words = {word.arg for word in node.keywords}
                allowed = {"sorted": {"key", "reverse"}, "min": {"key", "default"}, "max": {"key", "default"},
                           "sum": {"start"}, "enumerate": {"start"}, "zip": {"strict"}}
                if node.func.id not in known:
                    self.assertTrue(words <= allowed.get(node.func.id, set()), where)

    def test_names_that_are_read(self):
        for path, tree in TREES.items():
            top = set(module_names(tree))
            for function in functions(tree):
                names = bound_names(function) | top | BUILTINS
                for node in ast.walk(function):
                    if isinstance(node, ast.Name):
                        self.assertIn(node.id, names, (path, function.name))
                        if node.id == "_":
                            self.assertIsInstance(node.ctx, ast.Store, (path, function.name))

    def test_attributes(self):
        assigned = {node.attr for _, node in self.nodes()
                    if isinstance(node, ast.Attribute) and isinstance(node.ctx, ast.Store)}
        for where, node in self.nodes():
            if isinstance(node, ast.Attribute) and not (isinstance(node.parent, ast.Call) and node.parent.func is node):
                self.assertIn(node.attr, assigned, where)
                self.assertFalse(node.attr.startswith("__"), where)

    def test_views_are_iterated_at_once(self):
        for where, node in self.nodes():
            is_view = called(node) in VIEWS or (isinstance(node, ast.Call) and isinstance(node.func, ast.Attribute)
                                                and node.func.attr in ("items", "keys", "values"))
            if is_view:
                parent = node.parent
                iterated = isinstance(parent, (ast.For, ast.comprehension)) and parent.iter is node
                self.assertTrue(iterated or (called(parent) in TAKES_VIEWS and parent.args[0] is node), where)

    def test_sets_are_sorted_or_counted(self):
        for where, node in self.nodes():
            if called(node) == "set" or isinstance(node, (ast.Set, ast.SetComp)):
                parent = node.parent
                tested = isinstance(parent, ast.Compare) and isinstance(parent.ops[0], (ast.In, ast.NotIn))
                self.assertTrue(called(parent) in ("sorted", "len") or tested, where)

    def test_loops_do_not_change_what_they_iterate_over(self):
        changing = {"append", "clear", "extend", "insert", "pop", "remove", "reverse", "setdefault", "update"}
        for where, node in self.nodes():
            if not isinstance(node, ast.For):
                continue
            names = {item.id for item in ast.walk(node.iter) if isinstance(item, ast.Name)}
            for item in [item for part in node.body for item in ast.walk(part)]:
                if isinstance(item, ast.Call) and isinstance(item.func, ast.Attribute) and item.func.attr in changing:
                    root = item.func.value
                    self.assertFalse(isinstance(root, ast.Name) and root.id in names, where)
                if isinstance(item, ast.Subscript) and isinstance(item.ctx, (ast.Store, ast.Del)):
                    self.assertFalse(isinstance(item.value, ast.Name) and item.value.id in names, where)

    def test_inner_comprehensions_have_names_of_their_own(self):
        kinds = (ast.ListComp, ast.SetComp, ast.DictComp, ast.Lambda)
        for where, node in self.nodes():
            if isinstance(node, kinds):
                inner = bound_names(node)
                outer = node.parent
                while outer is not None and not isinstance(outer, (ast.FunctionDef, ast.Module)):
                    if isinstance(outer, kinds):
                        rest = {item.id for part in ast.walk(outer) if isinstance(part, ast.comprehension)
                                and part.parent is outer for item in ast.walk(part.target)
                                if isinstance(item, ast.Name)}
                        self.assertFalse(inner & rest - {"_"}, where)
                    outer = outer.parent


if __name__ == "__main__":
    unittest.main()

"""The package's files keep to the Python subset, as far as the rules can be seen in their text.

Some checks are narrower than the rules, where the package has not needed more; widen them when it does.
"""

import ast
import builtins
import os
import re
import unittest

ROOT = os.path.dirname(os.path.dirname(os.path.abspath(__file__)))
PACKAGE = os.path.join(ROOT, "onewitness")

BUILTINS = set("""
    len range enumerate zip min max sum abs sorted reversed int str bool bytes list tuple dict set frozenset isinstance
    ord chr repr any all divmod pow iter next map type Exception ValueError TypeError KeyError IndexError LookupError
    ZeroDivisionError ArithmeticError OverflowError RuntimeError NotImplementedError NotImplemented property
    staticmethod classmethod super
""".split())
METHODS = set("""
    append clear copy count endswith extend find get index insert isalnum isalpha isdigit islower isspace isupper items
    join keys ljust lower lstrip partition pop remove replace reverse rfind rjust rpartition rsplit rstrip setdefault
    split splitlines startswith strip update upper values zfill bit_length title capitalize swapcase casefold center
    expandtabs removeprefix removesuffix rindex isascii isdecimal isnumeric istitle isidentifier isprintable
    popleft appendleft add discard sort
""".split())
LIBRARY = {
    "heapq": {"heappush", "heappop", "heapify", "heapreplace", "heappushpop"},
    "math": {"gcd", "lcm", "isqrt", "comb", "perm", "factorial"},
    "itertools": {"product", "combinations", "permutations", "chain", "accumulate", "pairwise", "islice",
                  "zip_longest"},
    "collections": {"defaultdict", "deque"},
}
BARRED_NAMES = set("""
    register mro elements open input law version_info with_traceback add_note attrgetter breakpoint builtins compile
    copyright credits delattr dir eval exec exit gc globals help id importlib license locals methodcaller os quit
    vars sys
""".split())
BARRED_WORDS = re.compile(r"""\b(typing|typing_extensions|enum|Enum|IntEnum|StrEnum|Flag|IntFlag|Generic|Protocol|ABC
    |ABCMeta|namedtuple|NamedTuple|TypedDict|TYPE_CHECKING|abstractmethod)\b|dataclass|overload|contextmanager|_wall
    """, re.VERBOSE)
DOUBLE = re.compile(r"__(init|eq|repr|str|len|enter|exit|call|iter|lt|le|gt|ge|ne|add|sub|mul|contains|getitem)__")
STATEMENTS = (
    ast.Assign, ast.AugAssign, ast.If, ast.While, ast.For, ast.Return, ast.Break, ast.Continue, ast.Pass, ast.Raise,
    ast.Assert, ast.Delete, ast.Try, ast.Expr, ast.FunctionDef, ast.ClassDef, ast.ImportFrom,
)


def files():
    return sorted(name for name in os.listdir(PACKAGE) if name != "__pycache__")


def text_of(name):
    with open(os.path.join(PACKAGE, name), encoding="utf-8", newline="") as file:
        return file.read()


def nodes(name):
    return list(ast.walk(ast.parse(text_of(name))))


def bound_names(name):
    """The names that a file binds anywhere but by import: functions, classes, variables, parameters."""
    for node in nodes(name):
        if isinstance(node, (ast.FunctionDef, ast.ClassDef)):
            yield node.name
        elif isinstance(node, ast.arg):
            yield node.arg
        elif isinstance(node, ast.Name) and isinstance(node.ctx, ast.Store):
            yield node.id
        elif isinstance(node, ast.ExceptHandler) and node.name:
            yield node.name


def defined(name):
    """What a file defines at its top."""
    found = []
    for node in ast.parse(text_of(name)).body:
        if isinstance(node, (ast.FunctionDef, ast.ClassDef)):
            found.append(node.name)
        elif isinstance(node, ast.Assign):
            found.extend(target.id for target in node.targets)
    return found


class LanguageTest(unittest.TestCase):

    def test_files_and_sizes(self):
        self.assertIn("__init__.py", files())
        for name in files():
            self.assertRegex(name, r"\A[a-z_]+\.py\Z")
            text = text_of(name)
            self.assertIsNone(re.search(r"[^ -~\n]", text), name)
            self.assertIsNone(BARRED_WORDS.search(text), name)
            lines = text.split("\n")
            self.assertLessEqual(len(lines), 399, name)
            self.assertLessEqual(max(len(line) for line in lines), 120, name)
            for node in nodes(name):
                if isinstance(node, ast.FunctionDef):
                    self.assertLessEqual(node.end_lineno - node.lineno + 1, 40, (name, node.name))

    def test_imports(self):
        sources = {}
        for name in files():
            self.assertFalse([node for node in nodes(name) if isinstance(node, ast.Import)], name)
            sources[name] = []
            for node in nodes(name):
                if isinstance(node, ast.ImportFrom):
                    self.assertEqual((node.level, node.col_offset), (0, 0), name)
                    self.assertFalse([alias for alias in node.names if alias.asname], name)
                    wanted = {alias.name for alias in node.names}
                    if node.module in LIBRARY:
                        self.assertLessEqual(wanted, LIBRARY[node.module], name)
                    else:
                        self.assertRegex(node.module, r"\Aonewitness\.[a-z]+\Z")
                        source = node.module.split(".")[1] + ".py"
                        self.assertLessEqual(wanted, set(defined(source)), (name, source))
                        sources[name].append(source)
        while sources:
            free = [name for name in sources if not [source for source in sources[name] if source in sources]]
            self.assertTrue(free, "files import from each other: " + ", ".join(sources))
            for name in free:
                del sources[name]

    def test_ranges_zips_and_views_are_iterated_on_the_spot(self):
        makers = {"range", "zip", "enumerate", "reversed"}
        takers = {"list", "tuple", "dict", "sorted", "sum", "any", "all", "enumerate", "zip", "min", "max"}
        for name in files():
            for node in nodes(name):
                for child in ast.iter_child_nodes(node):
                    if not isinstance(child, ast.Call):
                        continue
                    named = isinstance(child.func, ast.Name) and child.func.id in makers
                    view = isinstance(child.func, ast.Attribute) and child.func.attr in ("items", "keys", "values")
                    if named or view:
                        iterated = isinstance(node, (ast.For, ast.comprehension)) and node.iter is child
                        taken = isinstance(node, ast.Call) and child in node.args and (
                            isinstance(node.func, ast.Name) and node.func.id in takers
                            or isinstance(node.func, ast.Attribute) and isinstance(node.func.value, ast.Constant))
                        kept = isinstance(node, ast.Assign) and isinstance(node.targets[0], ast.Name)
                        if named and child.func.id == "range":
                            turned = isinstance(node, ast.Call) and isinstance(node.func, ast.Name)
                            taken = taken or kept or turned and node.func.id == "reversed"
                        self.assertTrue(iterated or taken, (name, child.lineno))
        # Neither is a range that a variable keeps passed on or returned.
        for name in files():
            for function in [node for node in nodes(name) if isinstance(node, ast.FunctionDef)]:
                kept = {node.targets[0].id for node in ast.walk(function)
                        if isinstance(node, ast.Assign) and isinstance(node.value, ast.Call)
                        and isinstance(node.value.func, ast.Name) and node.value.func.id == "range"}
                for node in ast.walk(function):
                    if isinstance(node, ast.Call) and not (isinstance(node.func, ast.Name) and node.func.id in takers):
                        passed = {one.id for one in node.args if isinstance(one, ast.Name)}
                        self.assertFalse(kept & passed, (name, node.lineno))
                    if isinstance(node, ast.Return) and isinstance(node.value, ast.Name):
                        self.assertNotIn(node.value.id, kept, (name, node.lineno))

    def test_what_a_loop_goes_over_is_not_changed_in_it(self):
        changing = {"append", "extend", "insert", "pop", "remove", "clear", "update", "setdefault", "reverse", "sort"}
        for name in files():
            for loop in [node for node in nodes(name) if isinstance(node, ast.For)]:
                over = {ast.unparse(node) for node in ast.walk(loop.iter)
                        if isinstance(node, (ast.Name, ast.Attribute))}
                for node in ast.walk(ast.Module(loop.body, [])):
                    called = isinstance(node, ast.Call) and isinstance(node.func, ast.Attribute)
                    if called and node.func.attr in changing:
                        self.assertNotIn(ast.unparse(node.func.value), over, (name, node.lineno))
                    if isinstance(node, ast.Subscript) and isinstance(node.ctx, ast.Store):
                        self.assertNotIn(ast.unparse(node.value), over, (name, node.lineno))

    def test_what_builtins_are_passed(self):
        keywords = {"sorted": {"key", "reverse"}, "min": {"key", "default"}, "max": {"key", "default"},
                    "sum": {"start"}, "enumerate": {"start"}, "zip": {"strict"}}
        for name in files():
            for node in nodes(name):
                if isinstance(node, ast.Call):
                    self.assertFalse([one for one in node.args if isinstance(one, ast.Starred)], (name, node.lineno))
                    if isinstance(node.func, ast.Name) and hasattr(builtins, node.func.id):
                        passed = {one.arg for one in node.keywords}
                        self.assertLessEqual(passed, keywords.get(node.func.id, set()), (name, node.lineno))
                    if isinstance(node.func, ast.Attribute) and node.func.attr in METHODS:
                        self.assertEqual(node.keywords, [], (name, node.lineno))

    def test_sets_stand_only_where_they_are_counted(self):
        for name in files():
            for node in nodes(name):
                for child in ast.iter_child_nodes(node):
                    made = isinstance(child, ast.Call) and isinstance(child.func, ast.Name) and child.func.id == "set"
                    if made or isinstance(child, (ast.Set, ast.SetComp)):
                        counted = isinstance(node, ast.Call) and isinstance(node.func, ast.Name)
                        self.assertTrue(counted and node.func.id in ("len", "sorted"), (name, child.lineno))

    def test_names(self):
        for name in files():
            imported = [alias.name for node in nodes(name) if isinstance(node, ast.ImportFrom) for alias in node.names]
            classes = [node.name for node in nodes(name) if isinstance(node, ast.ClassDef)]
            tops = defined(name) + imported
            self.assertEqual(len(tops), len(set(tops)), name)
            for bound in bound_names(name):
                self.assertTrue(re.match(r"\A_?[A-Za-z][A-Za-z0-9_]*\Z|\A_\Z", bound) or DOUBLE.fullmatch(bound), bound)
                self.assertFalse(hasattr(builtins, bound) and bound[0] != "_", (name, bound))
                self.assertNotIn(bound, BARRED_NAMES, name)
                self.assertNotIn(bound, imported, name)
            for node in nodes(name):
                # A shell of Python, doctest's too, keeps what it printed last in the builtin "_".
                if isinstance(node, ast.Name) and node.id != "_" and hasattr(builtins, node.id):
                    self.assertIn(node.id, BUILTINS, (name, node.lineno))
                if isinstance(node, ast.Name) and isinstance(node.ctx, ast.Store):
                    self.assertNotIn(node.id, classes, name)
                if isinstance(node, ast.Name) and node.id == "_":
                    self.assertIsInstance(node.ctx, ast.Store, (name, node.lineno))

    def test_statements(self):
        for name in files():
            for node in nodes(name):
                if isinstance(node, ast.stmt):
                    self.assertIsInstance(node, STATEMENTS, (name, node.lineno))
                if isinstance(node, (ast.FunctionDef, ast.ClassDef)):
                    self.assertEqual(node.decorator_list, [], (name, node.lineno))
                if isinstance(node, ast.Raise):
                    self.assertTrue(node.exc is None or isinstance(node.exc, ast.Call), (name, node.lineno))
                if isinstance(node, ast.ExceptHandler):
                    self.assertIsInstance(node.type, ast.Name, (name, node.lineno))
                    self.assertTrue(node.type.id == "KeyError" or not hasattr(builtins, node.type.id), name)

    def test_expressions(self):
        own = {node.name for name in files() for node in nodes(name) if isinstance(node, ast.FunctionDef)}
        for name in files():
            for node in nodes(name):
                at = (name, getattr(node, "lineno", 0))
                self.assertNotIsInstance(node, (ast.Div, ast.GeneratorExp, ast.Yield, ast.Global, ast.NamedExpr), at)
                if isinstance(node, ast.Constant):
                    self.assertNotIsInstance(node.value, (float, complex, bytes), at)
                    self.assertNotIn("%", str(node.value), at)
                if isinstance(node, ast.Compare):
                    for operator, side in zip(node.ops, node.comparators):
                        if isinstance(operator, (ast.Is, ast.IsNot)):
                            self.assertTrue(isinstance(side, ast.Constant) and side.value in (None, True, False), at)
                if isinstance(node, ast.BinOp) and isinstance(node.op, ast.Pow):
                    self.assertIsInstance(node.right, ast.Constant, at)
                if isinstance(node, ast.Call) and isinstance(node.func, ast.Attribute):
                    self.assertIn(node.func.attr, METHODS | own, at)


if __name__ == "__main__":
    unittest.main()

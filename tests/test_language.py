"""The rules of the language that the package is written in, as far as they can be tested."""

import ast
import builtins
import io
import pathlib
import tokenize
import unittest
import warnings

ROOT = pathlib.Path(__file__).resolve().parent.parent
PACKAGE = ROOT / "doublecut"
ALLOWED_BUILTINS = set(
    "len range enumerate zip min max sum abs sorted reversed int str bool bytes list tuple dict set frozenset "
    "isinstance ord repr any all divmod map iter next property staticmethod classmethod super "
    "Exception ValueError TypeError KeyError IndexError LookupError ZeroDivisionError "
    "ArithmeticError OverflowError RuntimeError NotImplementedError AttributeError StopIteration NotImplemented".split()
)
LIBRARY = {
    "heapq": {"heappush", "heappop", "heapify", "heapreplace", "heappushpop"},
    "math": {"gcd", "lcm", "isqrt", "comb", "perm", "factorial"},
    "itertools": {"product", "combinations", "permutations"},
}
METHODS = set(
    "append clear copy count endswith extend find get index insert isalnum isalpha isdigit islower isspace isupper "
    "items join keys ljust lower lstrip partition pop remove replace reverse rfind rjust rpartition rsplit rstrip "
    "setdefault split splitlines startswith strip update upper values zfill bit_length sort add discard".split()
)
DUNDERS = set("__init__ __eq__ __repr__ __str__ __len__ __enter__ __exit__ __call__ __iter__".split())
BARRED_NAMES = set("register mro elements open input law version_info with_traceback add_note".split())
BARRED_WORDS = set(
    "type typing typing_extensions enum Enum IntEnum StrEnum Flag IntFlag Generic Protocol ABC ABCMeta namedtuple "
    "NamedTuple TypedDict TYPE_CHECKING abstractmethod".split()
)
BARRED_BEGINNINGS = ("_wall", "_pe_", "_dcw_", "_enum_", "_cm_", "_twin_re_", "_lay_", "_law_", "_stub_", "_sre")
STATEMENTS = (
    ast.FunctionDef, ast.ClassDef, ast.Assign, ast.AugAssign, ast.AnnAssign, ast.If, ast.While, ast.For, ast.Return,
    ast.Break, ast.Continue, ast.Pass, ast.Raise, ast.Assert, ast.Delete, ast.Nonlocal, ast.Match, ast.With, ast.Try,
    ast.Expr, ast.ImportFrom,
)
AT_ONCE = {"zip", "enumerate", "reversed"}
TAKERS = {"list", "tuple", "dict", "sorted", "sum", "any", "all", "enumerate", "zip", "min", "max"}


def files():
    return sorted(PACKAGE.rglob("*.py"))


def trees():
    return [(path, ast.parse(path.read_text(encoding="utf-8"))) for path in files()]


def parents_of(tree):
    return {child: node for node in ast.walk(tree) for child in ast.iter_child_nodes(node)}


def bound_names(node):
    """The names that a function binds: parameters, targets, nested functions."""
    names = []
    for inner in ast.walk(node):
        if isinstance(inner, ast.arg):
            names.append(inner.arg)
        if isinstance(inner, ast.Name) and isinstance(inner.ctx, (ast.Store, ast.Del)):
            names.append(inner.id)
        if isinstance(inner, ast.FunctionDef) and inner is not node:
            names.append(inner.name)
        if isinstance(inner, ast.ExceptHandler) and inner.name:
            names.append(inner.name)
    return names


def module_names(tree):
    names = []
    for node in tree.body:
        if isinstance(node, (ast.FunctionDef, ast.ClassDef)):
            names.append(node.name)
        if isinstance(node, ast.ImportFrom):
            names.extend(alias.name for alias in node.names)
        if isinstance(node, ast.Assign):
            names.extend(target.id for target in node.targets)
    return names


def docstrings(tree):
    found = set()
    for node in ast.walk(tree):
        if isinstance(node, (ast.Module, ast.ClassDef, ast.FunctionDef)) and node.body:
            first = node.body[0]
            if isinstance(first, ast.Expr) and isinstance(first.value, ast.Constant):
                found.add(first.value)
    return found


class Files(unittest.TestCase):
    def test_the_package_is_one_folder_of_plain_files(self):
        for path in PACKAGE.rglob("*"):
            if "__pycache__" in path.parts:
                continue
            self.assertTrue(path.is_file() and path.suffix == ".py", path)
            self.assertEqual(path.name, path.name.lower())
            self.assertNotIn(path.stem, dir(builtins))
            self.assertFalse(path.stem.startswith(("law_", "test")), path)
        self.assertTrue((PACKAGE / "__init__.py").is_file())
        self.assertLessEqual(len(files()), 100)

    def test_sizes_and_characters(self):
        for path in files():
            text = path.read_text(encoding="utf-8")
            self.assertTrue(all(" " <= letter <= "~" or letter == "\n" for letter in text), path)
            lines = text.splitlines()
            self.assertLessEqual(len(lines), 399, path)
            self.assertTrue(all(len(line) <= 120 for line in lines), path)
        for path, tree in trees():
            for node in ast.walk(tree):
                if isinstance(node, ast.FunctionDef):
                    self.assertLessEqual(node.end_lineno - node.lineno + 1, 40, (path, node.name))

    def test_no_warnings(self):
        for path in files():
            with warnings.catch_warnings():
                warnings.simplefilter("error")
                compile(path.read_text(encoding="utf-8"), str(path), "exec")


class Modules(unittest.TestCase):
    def test_imports(self):
        defined = {"doublecut." + path.stem: tree for path, tree in trees()}
        known = {name: {n for n in module_names(tree)} for name, tree in defined.items()}
        made = {
            name: {node.name for node in tree.body if isinstance(node, (ast.FunctionDef, ast.ClassDef))}
            | {target.id for node in tree.body if isinstance(node, ast.Assign) for target in node.targets}
            for name, tree in defined.items()
        }
        uses = {}
        for name, tree in defined.items():
            self.assertEqual(len(module_names(tree)), len(known[name]), name)
            past = False
            for node in tree.body:
                if not isinstance(node, ast.ImportFrom):
                    past = past or not isinstance(node, ast.Expr)
                    continue
                self.assertFalse(past, name)
                self.assertEqual(node.level, 0)
                self.assertTrue(all(alias.asname is None for alias in node.names))
                told = {alias.name for alias in node.names}
                if node.module in LIBRARY:
                    self.assertLessEqual(told, LIBRARY[node.module])
                else:
                    self.assertLessEqual(told, made[node.module], name)
                    uses.setdefault(name, set()).add(node.module)
        self.no_circle(uses)

    def test_all_imports_are_used(self):
        for path, tree in trees():
            met = {node.id for node in ast.walk(tree) if isinstance(node, ast.Name)}
            for node in tree.body:
                if isinstance(node, ast.ImportFrom):
                    self.assertLessEqual({alias.name for alias in node.names}, met, path)

    def no_circle(self, uses):
        left = dict(uses)
        while left:
            done = [name for name in left if not any(other in left for other in left[name])]
            self.assertTrue(done, left)
            left = {name: left[name] for name in left if name not in done}

    def test_what_stands_at_module_level(self):
        for path, tree in trees():
            for node in tree.body:
                self.assertIsInstance(node, (ast.Expr, ast.ImportFrom, ast.FunctionDef, ast.ClassDef, ast.Assign), path)
                if isinstance(node, ast.Expr):
                    self.assertIsInstance(node.value, ast.Constant)
                if isinstance(node, ast.Assign):
                    self.assertEqual(len(node.targets), 1)
                    self.assertIsInstance(node.targets[0], ast.Name)
                    ast.literal_eval(node.value)
            for node in ast.walk(tree):
                if isinstance(node, (ast.Import, ast.ImportFrom)):
                    self.assertIn(node, tree.body)
                if isinstance(node, ast.ClassDef):
                    self.assertIn(node, tree.body)

    def test_names(self):
        for path, tree in trees():
            imported = {alias.name for node in tree.body if isinstance(node, ast.ImportFrom) for alias in node.names}
            classes = {node.name for node in tree.body if isinstance(node, ast.ClassDef)}
            for node in tree.body:
                if isinstance(node, (ast.FunctionDef, ast.ClassDef)):
                    for name in bound_names(node):
                        self.assertNotIn(name, imported | classes, path)
                        if not (isinstance(node, ast.ClassDef) and name.startswith("__")):
                            self.assertNotIn(name, dir(builtins), path)
            for name in module_names(tree):
                self.assertNotIn(name, dir(builtins), path)
            for node in ast.walk(tree):
                for name in [getattr(node, field, None) for field in ("id", "arg", "attr", "name")]:
                    if isinstance(name, str):
                        self.check_name(name, path)

    def check_name(self, name, path):
        self.assertNotIn(name, BARRED_NAMES, path)
        self.assertTrue(name.isascii(), path)
        self.assertFalse(name.startswith(BARRED_BEGINNINGS), (path, name))
        if name.startswith("__"):
            self.assertIn(name, DUNDERS | {"__all__", "__version__", "__class__", "__name__"}, path)

    def test_barred_words(self):
        for path, tree in trees():
            docs = docstrings(tree)
            for node in ast.walk(tree):
                if isinstance(node, ast.Constant) and isinstance(node.value, str) and node not in docs:
                    self.assertFalse(set(node.value.replace(".", " ").split()) & BARRED_WORDS - {"type"}, path)
                    self.assertNotIn(chr(37), node.value, path)
                    self.assertFalse(node.value.endswith(("._", ".__")), path)
                if isinstance(node, ast.Name):
                    self.assertNotIn(node.id, BARRED_WORDS, path)

    def test_no_lists_or_dicts_at_module_level_are_changed_or_nested(self):
        for path, tree in trees():
            for node in tree.body:
                if isinstance(node, ast.Assign):
                    inner = [part for part in ast.walk(node.value) if isinstance(part, (ast.List, ast.Dict))]
                    self.assertIn(inner, ([], [node.value]), path)
                    for other_path, other in trees() if inner else []:
                        if node.targets[0].id in module_names(other):
                            self.check_only_read(other_path, other, node.targets[0].id)

    def check_only_read(self, path, tree, name):
        """That a list or a dict of a file is only asked by an index, by "in", by "get", in a loop, or copied."""
        parents = parents_of(tree)
        for node in ast.walk(tree):
            if isinstance(node, ast.Name) and node.id == name and isinstance(node.ctx, ast.Load):
                above = parents[node]
                if isinstance(above, ast.Attribute):
                    self.assertIn(above.attr, ("get", "items", "keys", "values"), path)
                elif isinstance(above, ast.Subscript):
                    self.assertIsInstance(above.ctx, ast.Load, path)
                elif isinstance(above, ast.Call):
                    self.assertIn(above.func.id, ("list", "dict", "tuple", "sorted", "len"), path)
                else:
                    self.assertIsInstance(above, (ast.Compare, ast.For, ast.comprehension), path)


class Statements(unittest.TestCase):
    def test_statements(self):
        for path, tree in trees():
            for node in ast.walk(tree):
                if isinstance(node, ast.stmt):
                    self.assertIsInstance(node, STATEMENTS, path)
                if isinstance(node, (ast.FunctionDef, ast.ClassDef)):
                    names = [part.id for part in node.decorator_list if isinstance(part, ast.Name)]
                    self.assertLessEqual(set(names), {"property", "staticmethod", "classmethod"}, path)
                if isinstance(node, ast.Try):
                    for handler in node.handlers:
                        self.assertIsNotNone(handler.type, path)
                if isinstance(node, ast.Raise) and node.exc is not None:
                    self.assertIsInstance(node.exc, ast.Call, path)
                    self.assertIsInstance(node.exc.func, ast.Name, path)

    def test_values(self):
        for path, tree in trees():
            for node in ast.walk(tree):
                if isinstance(node, ast.Constant):
                    self.assertNotIsInstance(node.value, (float, complex), path)
                self.assertNotIsInstance(node, (ast.Set, ast.Await, ast.AsyncFor, ast.Global), path)
                if isinstance(node, ast.BinOp):
                    self.assertNotIsInstance(node.op, (ast.Div, ast.MatMult), path)
                    if isinstance(node.op, ast.Pow):
                        self.assertIsInstance(node.right, ast.Constant, path)
                if isinstance(node, ast.Compare):
                    for sign, right in zip(node.ops, node.comparators):
                        if isinstance(sign, (ast.Is, ast.IsNot)):
                            self.assertIsInstance(right, ast.Constant, path)

    def test_sets_stand_in_sorted_or_len_alone(self):
        for path, tree in trees():
            parents = parents_of(tree)
            for node in ast.walk(tree):
                made = isinstance(node, ast.Call) and isinstance(node.func, ast.Name) and node.func.id == "set"
                if made or isinstance(node, ast.SetComp):
                    above = parents[node]
                    self.assertIsInstance(above, ast.Call, path)
                    self.assertIn(above.func.id, ("sorted", "len"), path)
                    self.assertEqual(above.keywords, [], path)

    def test_stars_stand_in_literals_and_targets_alone(self):
        for path, tree in trees():
            parents = parents_of(tree)
            for node in ast.walk(tree):
                if isinstance(node, ast.Starred):
                    self.assertIsInstance(parents[node], (ast.Tuple, ast.List), (path, node.lineno))
                if isinstance(node, ast.Call):
                    self.assertTrue(all(keyword.arg for keyword in node.keywords), (path, node.lineno))

    def test_names_are_given_in_tests_of_if_and_while_alone(self):
        for path, tree in trees():
            tests = [node.test for node in ast.walk(tree) if isinstance(node, (ast.If, ast.While))]
            inner = [part for test in tests for part in ast.walk(test)]
            for node in ast.walk(tree):
                if isinstance(node, ast.NamedExpr):
                    self.assertIn(node, inner, (path, node.lineno))

    def test_builtins(self):
        for path, tree in trees():
            parents = parents_of(tree)
            for node in ast.walk(tree):
                if not isinstance(node, ast.Name) or node.id not in dir(builtins):
                    continue
                self.assertIn(node.id, ALLOWED_BUILTINS, (path, node.lineno))
                above = parents[node]
                if node.id in AT_ONCE:
                    self.assertIsInstance(above, ast.Call, path)
                    outer = parents[above]
                    taken = isinstance(outer, ast.Call) and isinstance(outer.func, ast.Name) and outer.func.id in TAKERS
                    self.assertTrue(taken or isinstance(outer, (ast.For, ast.comprehension)), (path, node.lineno))

    def test_methods_and_keywords(self):
        own = {node.name for _, tree in trees() for node in ast.walk(tree) if isinstance(node, ast.FunctionDef)}
        for path, tree in trees():
            for node in ast.walk(tree):
                if not isinstance(node, ast.Call):
                    continue
                if isinstance(node.func, ast.Attribute) and node.func.attr not in own:
                    self.assertIn(node.func.attr, METHODS, (path, node.lineno))
                    self.assertEqual(node.keywords, [], (path, node.lineno))
                if isinstance(node.func, ast.Name) and node.func.id in dir(builtins):
                    told = {keyword.arg for keyword in node.keywords}
                    self.assertLessEqual(told, {"key", "reverse", "default", "start", "strict"}, path)

    def test_no_generators_and_lambdas_apart(self):
        for path, tree in trees():
            for node in ast.walk(tree):
                self.assertNotIsInstance(node, (ast.Yield, ast.YieldFrom, ast.GeneratorExp), path)

    def test_what_a_loop_goes_over_is_not_changed_in_it(self):
        changing = {"append", "extend", "insert", "remove", "pop", "clear", "update", "setdefault", "sort", "reverse"}
        for path, tree in trees():
            for node in ast.walk(tree):
                if not isinstance(node, ast.For):
                    continue
                over = {part.id for part in ast.walk(node.iter) if isinstance(part, ast.Name)}
                for inner in [part for row in node.body for part in ast.walk(row)]:
                    if isinstance(inner, ast.Call) and isinstance(inner.func, ast.Attribute):
                        if inner.func.attr in changing and isinstance(inner.func.value, ast.Name):
                            self.assertNotIn(inner.func.value.id, over, (path, inner.lineno))
                    if isinstance(inner, ast.Subscript) and isinstance(inner.ctx, (ast.Store, ast.Del)):
                        if isinstance(inner.value, ast.Name):
                            self.assertNotIn(inner.value.id, over, (path, inner.lineno))

    def test_double_underscore_methods(self):
        for path, tree in trees():
            for node in ast.walk(tree):
                if isinstance(node, ast.FunctionDef) and node.name.startswith("__"):
                    rows = [row for row in node.body if not isinstance(row, ast.Expr) or node.name == "__init__"]
                    self.check_rows(node.name, rows, path)

    def check_rows(self, name, rows, path):
        returns = [part for row in rows for part in ast.walk(row) if isinstance(part, ast.Return)]
        if name == "__init__":
            self.assertEqual(returns, [], path)
        if name in ("__len__", "__eq__"):
            self.assertEqual([rows], [returns], path)
        if name == "__len__":
            self.assertEqual(returns[0].value.func.id, "len", path)
        if name == "__exit__":
            for row in rows:
                self.assertIsInstance(row, ast.Assign, path)
                self.assertTrue(all(isinstance(part, ast.Attribute) for part in [*row.targets, row.value]), path)

    def test_properties_give_an_attribute(self):
        for path, tree in trees():
            for node in ast.walk(tree):
                if isinstance(node, ast.FunctionDef) and node.decorator_list:
                    self.assertEqual([mark.id for mark in node.decorator_list], ["property"], path)
                    self.assertIsInstance(node.body[-1], ast.Return, path)
                    self.assertIsInstance(node.body[-1].value, ast.Attribute, path)

    def test_no_name_is_a_method_and_an_attribute_or_a_property(self):
        methods, kept = set(), set()
        for _, tree in trees():
            for node in ast.walk(tree):
                if isinstance(node, ast.ClassDef):
                    methods |= {part.name for part in node.body if isinstance(part, ast.FunctionDef)}
                if isinstance(node, ast.Attribute) and isinstance(node.ctx, ast.Store):
                    kept.add(node.attr)
        self.assertEqual(methods & kept, set())

    def test_escapes(self):
        for path in files():
            for token in tokenize.generate_tokens(io.StringIO(path.read_text(encoding="utf-8")).readline):
                if token.type == tokenize.STRING:
                    told = token.string.replace("\\\\", "").replace("\\n", "").replace("\\t", "")
                    self.assertNotIn("\\", told.replace("\\'", "").replace('\\"', ""), path)


if __name__ == "__main__":
    unittest.main()

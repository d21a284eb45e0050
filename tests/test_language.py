"""The files of the package keep to the language of the project, as far as a simple look tells.

Where a rule of the language has many cases, the test asks for the simplest one. Numbers such as L10 are those of
the rules.
"""

import ast
import builtins
import pathlib
import re
import unittest

PACKAGE = pathlib.Path(__file__).resolve().parent.parent / "crossties"

NODES = """Module FunctionDef ClassDef Return Delete Assign AugAssign For While If Raise Try Assert ImportFrom Expr Pass
    Break Continue BoolOp BinOp UnaryOp Lambda IfExp Dict ListComp DictComp Compare Call FormattedValue JoinedStr
    Constant Attribute Subscript Starred Name List Tuple Slice comprehension arguments arg keyword alias ExceptHandler
    And Or Not Add Sub Mult FloorDiv Mod Pow LShift RShift BitOr BitXor BitAnd USub Invert
    Eq NotEq Lt LtE Gt GtE Is IsNot In NotIn Load Store Del""".split()
CALLED = """len range enumerate zip min max sum abs sorted reversed int str bool list tuple dict isinstance ord repr any
    all divmod""".split()
ERRORS = "ValueError LookupError".split()
METHODS = """append clear copy count endswith extend find get index insert isalnum isalpha isdigit islower isspace
    isupper items join keys ljust lower lstrip partition pop remove replace reverse rfind rjust rpartition rsplit rstrip
    setdefault split splitlines startswith strip update upper values zfill bit_length""".split()
KEYWORDS = {"sorted": ["key", "reverse"], "min": ["key", "default"], "max": ["key", "default"], "sum": ["start"],
            "enumerate": ["start"], "zip": ["strict"]}
AT_ONCE = "zip enumerate reversed range items keys values".split()
TAKERS = "list tuple dict sorted sum any all enumerate zip".split()
DUNDERS = "__init__ __eq__ __repr__ __str__ __len__".split()
BARRED = """register mro elements open input law version_info with_traceback add_note attrgetter breakpoint compile
    copyright credits delattr dir eval exec exit gc getattr globals hasattr help id importlib license locals
    methodcaller os quit setattr super type vars sys property staticmethod classmethod args format format_map
    sort encode decode hex fromhex""".split()
WORDS = """type typing typing_extensions enum Enum IntEnum StrEnum Flag IntFlag Generic Protocol ABC ABCMeta namedtuple
    NamedTuple TypedDict TYPE_CHECKING abstractmethod""".split()
LIBRARY = {
    "heapq": "heappush heappop heapify heapreplace heappushpop".split(),
    "math": "gcd lcm isqrt comb perm factorial".split(),
    "itertools": "product combinations permutations".split()}
METHOD_NAMES = ["map"]
CHANGES = "append clear extend insert pop remove reverse setdefault update".split()


def trees():
    return {path.stem: ast.parse(path.read_text(encoding="ascii")) for path in sorted(PACKAGE.glob("*.py"))}


def definitions(trees_by_name, kind):
    return {node.name for tree in trees_by_name.values() for node in ast.walk(tree) if isinstance(node, kind)}


def bound_names(tree):
    """All names that a file binds, with the nodes that bind them."""
    for node in ast.walk(tree):
        if isinstance(node, (ast.FunctionDef, ast.ClassDef)):
            yield node.name, node
        elif isinstance(node, ast.arg):
            yield node.arg, node
        elif isinstance(node, ast.Name) and not isinstance(node.ctx, ast.Load):
            yield node.id, node
        elif isinstance(node, ast.ExceptHandler) and node.name:
            yield node.name, node


def methods_of(tree):
    return [row for node in ast.walk(tree) if isinstance(node, ast.ClassDef) for row in node.body]


def parents(tree):
    return {child: node for node in ast.walk(tree) for child in ast.iter_child_nodes(node)}


def called_name(node):
    if isinstance(node.func, ast.Name):
        return node.func.id
    return node.func.attr if isinstance(node.func, ast.Attribute) else None


class LanguageTest(unittest.TestCase):
    def setUp(self):
        self.trees = trees()
        self.functions = definitions(self.trees, ast.FunctionDef)
        self.classes = definitions(self.trees, ast.ClassDef)

    def each(self, kind):
        for name, tree in self.trees.items():
            for node in ast.walk(tree):
                if isinstance(node, kind):
                    yield f"{name}.py:{getattr(node, 'lineno', 0)}", node

    def test_files(self):
        """L1, L14."""
        names = [path.name for path in PACKAGE.iterdir() if path.name != "__pycache__"]
        self.assertIn("__init__.py", names)
        self.assertLessEqual(len(names), 100)
        for name in names:
            self.assertRegex(name, r"^([a-z][a-z0-9_]*|__init__|__main__)\.py$")

    def test_characters_and_sizes(self):
        """L10, L14."""
        for path in PACKAGE.glob("*.py"):
            text = path.read_text(encoding="ascii")
            self.assertRegex(text, r"\A[ -~\n]*\Z", path.name)
            self.assertLessEqual(len(text.splitlines()), 399, path.name)
            self.assertLessEqual(max(len(line) for line in text.splitlines()), 120, path.name)
        for place, node in self.each(ast.FunctionDef):
            self.assertLessEqual(node.end_lineno - node.lineno + 1, 40, place)

    def test_nodes(self):
        """L6, L7, L23, L24: no sets, no generators, no floats, and nothing that is rarely needed."""
        for place, node in self.each(ast.AST):
            self.assertIn(type(node).__name__, NODES, place)
        for place, node in self.each(ast.Constant):
            self.assertIn(type(node.value), (int, str, bool, type(None)), place)

    def test_module_level(self):
        """L2, L3, L15, L16."""
        for name, tree in self.trees.items():
            bound = []
            for k, node in enumerate(tree.body):
                if isinstance(node, ast.ImportFrom):
                    bound += [alias.name for alias in node.names]
                    self.import_is_allowed(name, node)
                elif isinstance(node, (ast.FunctionDef, ast.ClassDef)):
                    bound.append(node.name)
                elif isinstance(node, ast.Assign):
                    self.assertEqual([type(target) for target in node.targets], [ast.Name], name)
                    self.value_is_plain(node.value, tree.body[:k])
                    bound.append(node.targets[0].id)
                else:
                    self.assertTrue(k == 0 and isinstance(node, ast.Expr), f"{name}.py:{node.lineno}")
            self.assertEqual(len(bound), len(set(bound)), name)
            for local, node in bound_names(tree):
                if node not in tree.body and not isinstance(node, ast.FunctionDef):
                    self.assertNotIn(local, self.imports_and_classes(tree), f"{name}.py:{node.lineno}")

    def value_is_plain(self, value, above):
        """L3: a value at module level; a dict may also have functions that are defined above it as its values."""
        functions = [node.name for node in above if isinstance(node, ast.FunctionDef)]
        if isinstance(value, ast.Dict) and all(isinstance(part, ast.Name) for part in value.values):
            for part in value.values:
                self.assertIn(part.id, functions)
            value = ast.List(elts=value.keys)
        ast.literal_eval(value)

    def imports_and_classes(self, tree):
        imports = [alias.name for node in tree.body if isinstance(node, ast.ImportFrom) for alias in node.names]
        return imports + [node.name for node in tree.body if isinstance(node, ast.ClassDef)]

    def import_is_allowed(self, name, node):
        self.assertEqual(node.level, 0, name)
        for alias in node.names:
            self.assertIsNone(alias.asname, name)
            if node.module in LIBRARY:
                self.assertIn(alias.name, LIBRARY[node.module], name)
            else:
                self.assertRegex(node.module, r"^crossties\.[a-z]", name)
                defined = [bound for bound, where in bound_names(self.trees[node.module.partition(".")[2]])]
                self.assertIn(alias.name, defined, name)

    def test_no_imports_in_a_ring(self):
        """L16."""
        left = {name: {node.module.partition(".")[2] for node in tree.body if isinstance(node, ast.ImportFrom)}
                & set(self.trees) for name, tree in self.trees.items()}
        while left:
            free = [name for name, others in left.items() if not others & set(left)]
            self.assertNotEqual(free, [])
            for name in free:
                del left[name]

    def test_names(self):
        """L8, L12, L15, L17, L26."""
        for name, tree in self.trees.items():
            for bound, node in bound_names(tree):
                place = f"{name}.py:{node.lineno} {bound}"
                if bound in DUNDERS:
                    continue
                self.assertRegex(bound, r"^(_?[A-Za-z][A-Za-z0-9_]*|_)$", place)
                self.assertNotIn(bound, BARRED, place)
                # A method may have the name of a builtin that the package could not use anyway.
                if not (bound in METHOD_NAMES and node in methods_of(tree)):
                    self.assertFalse(hasattr(builtins, bound), place)
        for place, node in self.each(ast.Attribute):
            if not node.attr.startswith("__"):
                self.assertNotIn(node.attr, BARRED, place)
        for place, node in self.each(ast.FunctionDef):
            self.assertEqual(node.decorator_list, [], place)
            self.assertIsNone(node.returns, place)
        for place, node in self.each(ast.Name):
            self.assertFalse(node.id == "_" and isinstance(node.ctx, ast.Load), place)

    def test_calls(self):
        """L5, L8, L22, L25."""
        for place, node in self.each(ast.Call):
            name = called_name(node)
            if isinstance(node.func, ast.Attribute):
                self.assertTrue(name in METHODS or name in self.functions or name == "__init__", f"{place} {name}")
                allowed = []
            else:
                self.assertTrue(isinstance(node.func, ast.Name), place)
                self.assertTrue(name in CALLED or not hasattr(builtins, name), f"{place} {name}")
                allowed = KEYWORDS.get(name, [])
            if name in METHODS or name in CALLED:
                for keyword in node.keywords:
                    self.assertIn(keyword.arg, allowed, place)

    def test_builtins_are_called_at_once(self):
        """L8, L18, L22: builtins and classes are not values."""
        for name, tree in self.trees.items():
            above = parents(tree)
            for node in ast.walk(tree):
                if not isinstance(node, ast.Name) or isinstance(node.ctx, ast.Store):
                    continue
                place = f"{name}.py:{node.lineno} {node.id}"
                parent = above[node]
                called = isinstance(parent, ast.Call) and parent.func is node
                grand = parent if isinstance(parent, ast.Call) else above.get(parent)
                asked = isinstance(grand, ast.Call) and called_name(grand) == "isinstance" and grand.args[0] is not node
                other = isinstance(parent, (ast.ClassDef, ast.ExceptHandler)) or (
                    isinstance(parent, ast.Tuple) and isinstance(above[parent], ast.ExceptHandler))
                if node.id in self.classes or node.id in ERRORS:
                    base = isinstance(parent, ast.Attribute) and parent.attr == "__init__"
                    self.assertTrue(called or asked or other or base, place)
                elif hasattr(builtins, node.id):
                    key = isinstance(parent, ast.keyword) and parent.arg == "key"
                    self.assertTrue(called or asked or key, place)

    def test_what_is_iterated_at_once(self):
        """L23."""
        for name, tree in self.trees.items():
            above = parents(tree)
            for node in ast.walk(tree):
                if isinstance(node, ast.Call) and called_name(node) in AT_ONCE:
                    parent = above[node]
                    taken = isinstance(parent, ast.Call) and called_name(parent) in TAKERS and parent.args[0] is node
                    turned = isinstance(parent, ast.Call) and called_name(parent) == "reversed"
                    alone = isinstance(parent, ast.Call) and called_name(parent) in ("min", "max")
                    walked = isinstance(parent, (ast.For, ast.comprehension)) and parent.iter is node
                    back = turned and called_name(node) == "range"
                    self.assertTrue(taken or walked or alone or back, f"{name}.py:{node.lineno}")

    def test_loops_do_not_change_what_they_go_over(self):
        """L23: nothing that is named in the head of a loop is changed in its rows by a method or an item."""
        for place, loop in self.each(ast.For):
            heads = {ast.unparse(node) for node in ast.walk(loop.iter) if isinstance(node, (ast.Name, ast.Attribute))}
            for row in loop.body:
                for node in ast.walk(row):
                    if isinstance(node, ast.Call) and called_name(node) in CHANGES:
                        self.assertNotIn(ast.unparse(node.func.value), heads, place)
                    if isinstance(node, ast.Call) and called_name(node) in LIBRARY["heapq"]:
                        self.assertNotIn(ast.unparse(node.args[0]), heads, place)
                    if isinstance(node, ast.Subscript) and not isinstance(node.ctx, ast.Load):
                        self.assertNotIn(ast.unparse(node.value), heads, place)

    def test_errors(self):
        """L18, L19."""
        for place, node in self.each(ast.ExceptHandler):
            names = node.type.elts if isinstance(node.type, ast.Tuple) else [node.type]
            for name in names:
                self.assertTrue(name.id in self.classes or name.id in ("KeyError", "ZeroDivisionError"), place)
        for place, node in self.each(ast.Raise):
            made = isinstance(node.exc, ast.Call) and called_name(node.exc) in self.classes
            self.assertTrue(node.exc is None or made, place)

    def test_is(self):
        """L20."""
        for place, node in self.each(ast.Compare):
            for sign, right in zip(node.ops, node.comparators):
                if isinstance(sign, (ast.Is, ast.IsNot)):
                    self.assertTrue(isinstance(right, ast.Constant) and right.value in (None, True, False), place)

    def test_methods_and_attributes(self):
        """L5, L18, L28."""
        for place, node in self.each(ast.ClassDef):
            methods = [row.name for row in node.body if isinstance(row, ast.FunctionDef)]
            self.assertEqual(len(methods), len(set(methods)), place)
            stored = {part.attr for part in ast.walk(node)
                      if isinstance(part, ast.Attribute) and isinstance(part.ctx, ast.Store)}
            self.assertEqual(stored & set(methods), set(), place)
            for method in methods:
                self.assertTrue(method in DUNDERS or not method.startswith("__"), f"{place} {method}")
            for row in node.body:
                doc = isinstance(row, ast.Expr) and isinstance(row.value, ast.Constant)
                self.assertTrue(doc or isinstance(row, ast.FunctionDef), place)

    def test_strings(self):
        """L17, L27."""
        for place, node in self.each(ast.Constant):
            if isinstance(node.value, str):
                self.assertNotIn("%", node.value, place)
                self.assertFalse(node.value.endswith(("._", ".__")), place)
                self.assertNotRegex(node.value, r"^__.*__$", place)
        for path in PACKAGE.glob("*.py"):
            rows = [row for row in path.read_text(encoding="ascii").splitlines()]
            for number, row in enumerate(rows, start=1):
                self.assertNotRegex(row, r"dataclass|overload|contextmanager|_wall|_WallAttr", f"{path.name}:{number}")
                self.assertNotRegex(row, r"\\[^nt\\\"']", f"{path.name}:{number}")
                for word in re.findall(r"[A-Za-z_]+", row):
                    self.assertNotIn(word, WORDS, f"{path.name}:{number}")

"""Rules of the language that a program can see, for all files of the package.

Where a rule allows a thing in some places only, and the package needs it nowhere, it is not allowed here at all.
"""

import ast
import builtins
import os
import re
import unittest

FOLDER = os.path.join(os.path.dirname(os.path.abspath(__file__)), "..", "figurestay")

BUILTINS = set("""len range enumerate zip min max sum abs sorted reversed int str bool list tuple dict set isinstance
ord repr any all divmod""".split())
METHODS = set("""append clear copy count endswith extend find get index insert isalnum isalpha isdigit islower isspace
isupper items join keys ljust lower lstrip partition pop remove replace reverse rfind rjust rpartition rsplit rstrip
setdefault split splitlines startswith strip update upper values zfill bit_length removeprefix removesuffix isascii
isdecimal add discard""".split())
LIBRARY = {"heapq": {"heappush", "heappop", "heapify", "heapreplace", "heappushpop"},
           "math": {"gcd", "lcm", "isqrt", "comb", "perm", "factorial"},
           "itertools": {"product", "combinations", "permutations"}}
# What a caller passes to be called.
CALLED_PARAMETERS = ("action",)
SPECIAL = set("""__init__ __eq__ __str__ __add__ __radd__ __sub__ __rsub__ __mul__ __rmul__ __neg__ __abs__
__lt__ __le__""".split())
STATEMENTS = (ast.Assign, ast.AugAssign, ast.If, ast.While, ast.For, ast.Return, ast.Break, ast.Continue, ast.Pass,
              ast.Raise, ast.Try, ast.Expr, ast.FunctionDef, ast.ClassDef, ast.ImportFrom)
EXPRESSIONS = (ast.BoolOp, ast.BinOp, ast.UnaryOp, ast.Lambda, ast.IfExp, ast.Dict, ast.ListComp, ast.SetComp,
               ast.DictComp, ast.Compare, ast.Call, ast.FormattedValue, ast.JoinedStr, ast.Constant, ast.Attribute,
               ast.Subscript, ast.Name, ast.List, ast.Tuple, ast.Slice)
NO_NAMES = set("""register mro elements open input law version_info with_traceback add_note attrgetter breakpoint compile
copyright credits delattr dir eval exec exit gc getattr globals hasattr help id importlib license locals methodcaller os
quit setattr super type vars sys map next iter""".split())
NO_WORDS = set("""type typing typing_extensions enum Enum IntEnum StrEnum Flag IntFlag Generic Protocol ABC ABCMeta
namedtuple NamedTuple TypedDict TYPE_CHECKING abstractmethod""".split())
NO_ATTRIBUTES = set("""items keys values pop update append clear extend insert remove reverse setdefault sort args encode
decode hex fromhex format format_map as_integer_ratio bit_count conjugate from_bytes is_integer to_bytes""".split())


def files():
    return sorted(name for name in os.listdir(FOLDER) if name != "__pycache__")


def text_of(name):
    with open(os.path.join(FOLDER, name), encoding="utf-8", newline="") as source:
        return source.read()


TREES = {name: ast.parse(text_of(name)) for name in files()}


def docstrings(tree):
    found = set()
    for node in ast.walk(tree):
        if isinstance(node, (ast.Module, ast.ClassDef, ast.FunctionDef)) and node.body:
            first = node.body[0]
            if isinstance(first, ast.Expr) and isinstance(first.value, ast.Constant):
                found.add(id(first.value))
    return found


def own_methods():
    return {node.name for tree in TREES.values() for told in ast.walk(tree) if isinstance(told, ast.ClassDef)
            for node in told.body if isinstance(node, ast.FunctionDef)}


def bound_names(tree):
    """All names that a file binds: variables, parameters, functions, classes, imports."""
    for node in ast.walk(tree):
        if isinstance(node, ast.Name) and isinstance(node.ctx, ast.Store):
            yield node, node.id
        elif isinstance(node, ast.arg):
            yield node, node.arg
        elif isinstance(node, (ast.FunctionDef, ast.ClassDef)):
            yield node, node.name
        elif isinstance(node, ast.alias):
            yield node, node.name


class Language(unittest.TestCase):

    def each(self, *kinds):
        """Each node of these kinds in the package, with a word that says where it stands."""
        for name, tree in TREES.items():
            for node in ast.walk(tree):
                if isinstance(node, kinds):
                    yield node, f"{name}:{getattr(node, 'lineno', 0)}"

    def test_files(self):
        self.assertIn("__init__.py", files())
        for name in files():
            self.assertRegex(name, "^[a-z_][a-z0-9_]*[.]py$")
            text = text_of(name)
            self.assertRegex(text, "\\A[ -~\n]*\\Z", name)
            lines = text.split("\n")
            self.assertLess(len(lines), 400, name)
            self.assertLessEqual(max(len(line) for line in lines), 120, name)

    def test_length_of_functions(self):
        for node, at in self.each(ast.FunctionDef):
            self.assertLessEqual(node.end_lineno - node.lineno + 1, 40, at)

    def test_statements_and_expressions(self):
        for node, at in self.each(ast.stmt):
            self.assertIsInstance(node, STATEMENTS, at)
        for node, at in self.each(ast.expr):
            self.assertIsInstance(node, EXPRESSIONS, at)

    def test_module_level(self):
        for name, tree in TREES.items():
            bound = []
            for place, node in enumerate(tree.body):
                self.assertIsInstance(node, (ast.Expr, ast.ImportFrom, ast.Assign, ast.FunctionDef, ast.ClassDef), name)
                if isinstance(node, ast.Expr):
                    self.assertEqual(place, 0)
                elif isinstance(node, ast.Assign):
                    self.assertEqual([type(target) for target in node.targets], [ast.Name])
                    ast.literal_eval(node.value)
                    bound.append(node.targets[0].id)
                elif isinstance(node, ast.ImportFrom):
                    bound.extend([told.name for told in node.names])
                else:
                    bound.append(node.name)
            self.assertEqual(len(bound), len(set(bound)), name)

    def test_imports(self):
        graph = {}
        for name, tree in TREES.items():
            graph[name] = []
            at_top = True
            for node in tree.body:
                if not isinstance(node, ast.ImportFrom):
                    at_top = at_top and isinstance(node, ast.Expr)
                    continue
                self.assertTrue(at_top and node.level == 0 and all(told.asname is None for told in node.names), name)
                if node.module in LIBRARY:
                    self.assertTrue({told.name for told in node.names} <= LIBRARY[node.module])
                    continue
                self.assertTrue(node.module.startswith("figurestay."), name)
                other = node.module.removeprefix("figurestay.") + ".py"
                graph[name].append(other)
                self.check_defined(other, [told.name for told in node.names])
        self.check_no_cycle(graph)

    def check_defined(self, file, names):
        defined = []
        for node in TREES[file].body:
            if isinstance(node, ast.Assign):
                defined.append(node.targets[0].id)
            elif isinstance(node, (ast.FunctionDef, ast.ClassDef)):
                defined.append(node.name)
        for name in names:
            self.assertIn(name, defined)

    def check_no_cycle(self, graph):
        left = dict(graph)
        while left:
            free = [name for name in left if not any(other in left for other in left[name])]
            self.assertTrue(free, left)
            left = {name: left[name] for name in left if name not in free}

    def test_each_import_is_used(self):
        for name, tree in TREES.items():
            used = {node.id for node in ast.walk(tree) if isinstance(node, ast.Name)}
            for node in tree.body:
                if isinstance(node, ast.ImportFrom):
                    self.assertTrue({told.name for told in node.names} <= used, name)

    def test_names(self):
        for name, tree in TREES.items():
            top = {node.name for node in tree.body if isinstance(node, ast.ClassDef)}
            top |= {told.name for node in tree.body if isinstance(node, ast.ImportFrom) for told in node.names}
            methods = {id(node) for told in ast.walk(tree) if isinstance(told, ast.ClassDef) for node in told.body}
            for node, told in bound_names(tree):
                at = f"{name}: {told}"
                self.assertNotIn(told, NO_NAMES, at)
                if id(node) in methods:
                    self.assertTrue(told in SPECIAL or not told.startswith("__"), at)
                    continue
                self.assertFalse(hasattr(builtins, told), at)
                self.assertFalse(told.startswith("__"), at)
                if isinstance(node, (ast.Name, ast.arg)):
                    self.assertNotIn(told, top, at)

    def test_calls(self):
        own, methods = {"figurestay"}, own_methods()
        for tree in TREES.values():
            own |= {node.name for node in tree.body if isinstance(node, (ast.FunctionDef, ast.ClassDef))}
        for names in LIBRARY.values():
            own |= names
        for node, at in self.each(ast.Call):
            if isinstance(node.func, ast.Name):
                self.assertTrue(node.func.id in BUILTINS or node.func.id in own or node.func.id in CALLED_PARAMETERS, at)
                if node.func.id in BUILTINS:
                    self.assertTrue({told.arg for told in node.keywords} <= {"key", "reverse", "default", "start"}, at)
            else:
                self.assertIsInstance(node.func, ast.Attribute, at)
                self.assertTrue(node.func.attr in METHODS or node.func.attr in methods, at)
                self.assertTrue(node.func.attr in methods or not node.keywords, at)

    def test_builtins_are_only_called(self):
        called = {id(node.func) for node, _ in self.each(ast.Call)}
        called |= {id(part) for node, _ in self.each(ast.Call) for told in node.args for part in ast.walk(told)
                   if isinstance(node.func, ast.Name) and node.func.id == "isinstance"}
        called |= {id(told.value) for node, _ in self.each(ast.Call) for told in node.keywords
                   if told.arg == "key" and isinstance(told.value, ast.Name) and told.value.id in ("len", "abs")}
        called |= {id(base) for node, _ in self.each(ast.ClassDef) for base in node.bases}
        called |= {id(node.value) for node, _ in self.each(ast.Return) if ast.unparse(node) == "return NotImplemented"}
        for node, at in self.each(ast.Name):
            if isinstance(node.ctx, ast.Load) and hasattr(builtins, node.id) and node.id != "property":
                self.assertIn(id(node), called, f"{at} {node.id}")

    def test_operators(self):
        for node, at in self.each(ast.BinOp, ast.AugAssign):
            self.assertNotIsInstance(node.op, (ast.Div, ast.MatMult), at)
            if isinstance(node.op, ast.Pow):
                self.assertIsInstance(node.right, ast.Constant, at)
                self.assertLessEqual(node.right.value, 64, at)
            if isinstance(node, ast.AugAssign):
                self.assertTrue(isinstance(node.op, ast.Add) and isinstance(node.value, ast.Constant), at)
        for node, at in self.each(ast.Compare):
            sides = [node.left] + node.comparators
            for number, sign in enumerate(node.ops):
                if isinstance(sign, (ast.Is, ast.IsNot)):
                    self.assertTrue(isinstance(sides[number + 1], ast.Constant), at)

    def test_what_compares_has_one_key(self):
        """So sorted, min and max may take anything."""
        for node, at in self.each(ast.ClassDef):
            methods = {told.name: told for told in node.body if isinstance(told, ast.FunctionDef)}
            orders = [name for name in ("__lt__", "__le__") if name in methods]
            if not orders:
                continue
            self.assertEqual(orders + ["__eq__"], ["__lt__", "__le__", "__eq__"], at)
            keys = set()
            for name, sign, other in (("__lt__", "<", "NotImplemented"), ("__le__", "<=", "NotImplemented"),
                                      ("__eq__", "==", "False")):
                first, second = methods[name].body
                self.assertEqual(ast.unparse(first), f"if not isinstance(other, {node.name}):\n    return {other}", at)
                mine, yours = ast.unparse(second).removeprefix("return ").split(f" {sign} ")
                self.assertEqual(mine.replace("self.", "other."), yours, at)
                self.assertTrue(re.fullmatch(r"\(self\.\w+(, self\.\w+)*\)", mine), at)
                keys.add(mine)
            self.assertEqual(len(keys), 1, at)
        for node, at in self.each(ast.Attribute):
            self.assertNotEqual(node.attr, "sort", at)

    def test_sets_stand_in_sorted_and_len_only(self):
        allowed = {id(node.args[0]) for node, _ in self.each(ast.Call)
                   if isinstance(node.func, ast.Name) and node.func.id in ("sorted", "len")}
        for node, at in self.each(ast.SetComp):
            self.assertIn(id(node), allowed, at)
        for node, at in self.each(ast.Call):
            if isinstance(node.func, ast.Name) and node.func.id == "set":
                self.assertIn(id(node), allowed, at)

    def test_iterated_at_once(self):
        """What is no list stands behind `in`, or in a call that iterates over it."""
        allowed = {id(node.iter) for node, _ in self.each(ast.For, ast.comprehension)}
        for node, _ in self.each(ast.Call):
            if isinstance(node.func, ast.Name) and node.func.id in ("list", "tuple", "dict", "sorted", "sum", "enumerate",
                                                                    "zip", "min", "max", "any", "all"):
                allowed |= {id(told) for told in node.args}
        for node, at in self.each(ast.Call):
            lazy = isinstance(node.func, ast.Name) and node.func.id in ("zip", "enumerate", "reversed", "range")
            if lazy or (isinstance(node.func, ast.Attribute) and node.func.attr in ("items", "keys", "values")):
                self.assertIn(id(node), allowed, at)

    def test_constants_and_strings(self):
        for name, tree in TREES.items():
            told = docstrings(tree)
            for node in ast.walk(tree):
                if not isinstance(node, ast.Constant):
                    continue
                at = f"{name}:{node.lineno}"
                self.assertIsInstance(node.value, (int, str, type(None)), at)
                if isinstance(node.value, str):
                    self.assertNotIn("%", node.value, at)
                    self.assertNotRegex(node.value, "[.]__?$", at)
                    self.assertNotRegex(node.value, "^__.*__$", at)
                    if id(node) not in told:
                        self.assertFalse(set(re.findall("[A-Za-z_]+", node.value)) & NO_WORDS, at)

    def test_words(self):
        for name, tree in TREES.items():
            words = {node.id for node in ast.walk(tree) if isinstance(node, ast.Name)}
            words |= {node.attr for node in ast.walk(tree) if isinstance(node, ast.Attribute)}
            words |= {told for _, told in bound_names(tree)}
            self.assertFalse(words & (NO_WORDS | {"__class__", "__name__", "__dict__"}), name)
            self.assertNotRegex(text_of(name), "_wall|_WallAttr|dataclass|overload|contextmanager", name)

    def test_decorators_and_defaults(self):
        for node, at in self.each(ast.FunctionDef):
            for told in node.decorator_list:
                self.assertTrue(isinstance(told, ast.Name) and told.id == "property", at)
            for told in node.args.defaults + [told for told in node.args.kw_defaults if told is not None]:
                ast.literal_eval(told)
            self.assertIsNone(node.returns, at)

    def test_attributes(self):
        assigned, read = set(), set()
        for node, at in self.each(ast.Attribute):
            if isinstance(node.ctx, ast.Store):
                self.assertIsInstance(node.value, ast.Name, at)
                self.assertNotIn(node.attr, NO_ATTRIBUTES, at)
                assigned.add(node.attr)
            else:
                read.add(node.attr)
        self.assertFalse(assigned & own_methods())
        self.assertFalse(read - assigned - own_methods() - METHODS)

    def test_own_errors_alone_are_caught(self):
        errors = {node.name for node in TREES["errors.py"].body if isinstance(node, ast.ClassDef)}
        for node, at in self.each(ast.Try):
            self.check_finally(node.finalbody, at)
            for handler in node.handlers:
                self.assertTrue(isinstance(handler.type, ast.Name) and handler.type.id in errors, at)

    def check_finally(self, rows, at):
        """Names are assigned to names and attributes, perhaps below a test whether a name is None."""
        for node in rows:
            if isinstance(node, ast.If):
                self.assertTrue(isinstance(node.test, ast.Compare) and isinstance(node.test.left, ast.Name), at)
                self.assertEqual([told.value for told in node.test.comparators], [None], at)
                self.check_finally(node.body + node.orelse, at)
                continue
            self.assertIsInstance(node, ast.Assign, at)
            self.assertIsInstance(node.value, ast.Name, at)
            self.assertTrue(all(isinstance(told, (ast.Name, ast.Attribute)) for told in node.targets), at)

    def test_raise_creates_its_error_on_the_spot(self):
        errors = {node.name for node in TREES["errors.py"].body if isinstance(node, ast.ClassDef)}
        for node, at in self.each(ast.Raise):
            self.assertTrue(isinstance(node.exc, ast.Call) and node.exc.func.id in errors and node.cause is None, at)

    def test_init_returns_nothing(self):
        for node, at in self.each(ast.FunctionDef):
            if node.name == "__init__":
                self.assertFalse([told for told in ast.walk(node) if isinstance(told, ast.Return)], at)
            elif node.name == "__str__":
                self.assertIsInstance(node.body[-1], ast.Return, at)


if __name__ == "__main__":
    unittest.main()

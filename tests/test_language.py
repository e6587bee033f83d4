"""The package keeps to those rules of LANGUAGE.md that its source shows at once."""

import ast
import builtins
import re
import unittest
from pathlib import Path

PACKAGE = Path(__file__).resolve().parent.parent / "layoutswap"
LIBRARY = {
    "heapq": "heappush heappop heapify heapreplace heappushpop".split(),
    "math": "gcd lcm isqrt comb perm factorial".split(),
    "itertools": "product combinations permutations chain accumulate pairwise islice zip_longest".split(),
    "collections": "defaultdict deque".split(),
    "__future__": "annotations".split(),
}
BUILTINS = set("""
    len range enumerate zip min max sum abs sorted reversed int str bool bytes list tuple dict set frozenset isinstance
    ord repr any all divmod pow getattr hasattr setattr super map iter next type property staticmethod classmethod
    Exception ValueError TypeError KeyError IndexError LookupError ZeroDivisionError ArithmeticError OverflowError
    RuntimeError NotImplementedError AttributeError StopIteration NotImplemented object
""".split())
NOWHERE = set("""
    register mro elements open input law version_info with_traceback add_note format format_map
    _cold _tuplegetter _outside _record _written_out _member_names
""".split())
ATTRIBUTES_ALONE = set("""
    attrgetter breakpoint builtins compile copyright credits delattr dir eval exec exit gc globals help id importlib
    license locals methodcaller os quit vars sys
""".split())
BARRED_WORDS = set("""
    typing typing_extensions enum Enum IntEnum StrEnum Flag IntFlag Generic Protocol ABC ABCMeta namedtuple NamedTuple
    TypedDict TYPE_CHECKING abstractmethod
""".split())
BARRED_STEMS = ("_wall", "_pe_", "_dcw_", "_enum_", "_cm_", "_twin_re_", "_lay_", "_law_", "_stub_", "_sre")
OPERATORS = "add sub mul floordiv mod pow and or xor lshift rshift".split()
METHODS = {"__" + stem + sign + "__" for sign in OPERATORS for stem in ("", "r", "i")} - {"__rpow__"}
METHODS |= set("""
    __init__ __eq__ __repr__ __str__ __len__ __enter__ __exit__ __call__ __iter__ __lt__ __le__ __gt__ __ge__ __ne__
    __neg__ __pos__ __invert__ __abs__ __bool__ __contains__ __getitem__ __setitem__
""".split())
BARRED_NODES = (
    ast.AsyncFunctionDef, ast.AsyncFor, ast.AsyncWith, ast.Await, ast.Div, ast.MatMult, ast.Import, ast.TryStar,
)
NO_PLAIN_VALUES = (
    ast.Call, ast.ListComp, ast.SetComp, ast.DictComp, ast.GeneratorExp, ast.Set, ast.Attribute, ast.Lambda,
)
DEFINITIONS = (ast.FunctionDef, ast.ClassDef)
CHANGING = "append clear extend insert pop remove reverse setdefault update sort add discard".split()
NO_OPERATORS = ("__init__", "__setitem__", "__call__", "__enter__", "__exit__", "__iter__")


def each_file(check):
    """Make a test of a check: it is done for each file, with its name, its text and its tree."""
    def test(self):
        for path in sorted(PACKAGE.rglob("*.py")):
            with self.subTest(path.name):
                text = path.read_text(encoding="utf-8")
                check(self, path.name, text, ast.parse(text))
    return test


def nodes_of(tree, kinds):
    """The nodes of a tree that are of these kinds."""
    return [node for node in ast.walk(tree) if isinstance(node, kinds)]


def docstrings(tree):
    """The nodes of the docstrings of a file."""
    told = [node for node in nodes_of(tree, DEFINITIONS + (ast.Module,)) if ast.get_docstring(node) is not None]
    return [node.body[0].value for node in told]


def imported(tree):
    """The names that a file imports."""
    return [alias.asname or alias.name for node in nodes_of(tree, ast.ImportFrom) for alias in node.names]


def bound_names(tree):
    """All names that a file binds, anywhere in it."""
    names = imported(tree) + [node.name for node in nodes_of(tree, DEFINITIONS)]
    names += [node.arg for node in nodes_of(tree, ast.arg)]
    names += [node.id for node in nodes_of(tree, ast.Name) if not isinstance(node.ctx, ast.Load)]
    caught = nodes_of(tree, (ast.ExceptHandler, ast.MatchAs, ast.MatchStar))
    return names + [node.name for node in caught if node.name]


def top_names(tree):
    """The names that a file binds at module level, in order; None for a statement that may not stand there."""
    names = []
    for at, node in enumerate(tree.body):
        if isinstance(node, DEFINITIONS):
            names.append(node.name)
        elif isinstance(node, ast.ImportFrom):
            names.extend(imported(node))
        elif isinstance(node, ast.Assign) and len(node.targets) == 1 and is_plain(node.value, names):
            names.append(getattr(node.targets[0], "id", None))
        elif at or node.value not in docstrings(tree):
            names.append(None)
    return names


def is_plain(value, names):
    """Whether an expression at module level is made of plain values and of names above it."""
    used = [node.id for node in nodes_of(value, ast.Name)]
    return not nodes_of(value, NO_PLAIN_VALUES) and set(used) <= set(names)


def calls_of(tree, words):
    """The calls of these builtins."""
    return [node for node in nodes_of(tree, ast.Call) if getattr(node.func, "id", "") in words.split()]


def is_plainly_comparable(value):
    """Whether an expression shows that it is a number or a string, or a tuple of such."""
    if isinstance(value, ast.Tuple):
        return all(is_plainly_comparable(part) for part in value.elts)
    called = getattr(getattr(value, "func", None), "id", "")
    return isinstance(value, ast.Constant) or called in ("len", "int", "str", "ord", "repr")


def surely_created(value):
    """Whether a value surely is a list, dict or set that the function itself creates, beside an __add__ and a __mul__."""
    if isinstance(value, ast.BinOp):
        return isinstance(value.op, ast.Add) and surely_created(value.left) and surely_created(value.right)
    called = getattr(getattr(value, "func", None), "id", "")
    made = isinstance(value, (ast.List, ast.ListComp, ast.Dict, ast.DictComp, ast.Set, ast.SetComp))
    return made or called in ("list", "dict", "set", "sorted")


def changed_values(function):
    """The expressions whose items or attributes a function changes."""
    stored = [node for node in nodes_of(function, (ast.Subscript, ast.Attribute)) if not isinstance(node.ctx, ast.Load)]
    called = [node.func for node in nodes_of(function, ast.Call) if getattr(node.func, "attr", "") in CHANGING]
    return [node.value for node in stored + called]


def assigned_values(function, name):
    """What a function assigns to a name; None where it is a parameter, a loop's variable or a part of a target."""
    plain = [node for node in nodes_of(function, ast.Assign) if name in [getattr(to, "id", "") for to in node.targets]]
    stored = [node for node in nodes_of(function, ast.Name) if node.id == name and not isinstance(node.ctx, ast.Load)]
    is_parameter = name in [node.arg for node in nodes_of(function, ast.arg)]
    return [node.value for node in plain] + [None] * (len(stored) - len(plain) + is_parameter)


def run_by_operators(trees):
    """The functions that operators and properties run, through what they call, by their names."""
    functions = {}
    for tree in trees:
        for node in nodes_of(tree, DEFINITIONS):
            functions.setdefault(node.name, []).append(node)
    waiting = [
        part for tree in trees for node in nodes_of(tree, ast.ClassDef) for part in node.body
        if isinstance(part, ast.FunctionDef) and part.name not in NO_OPERATORS
        and (part.name.startswith("__") or "property" in [getattr(word, "id", "") for word in part.decorator_list])
    ]
    found = []
    while waiting:
        node = waiting.pop()
        if isinstance(node, ast.ClassDef):
            waiting.extend(part for part in node.body if getattr(part, "name", "") == "__init__")
        elif node not in found:
            found.append(node)
            for call in nodes_of(node, ast.Call):
                name = getattr(call.func, "id", getattr(call.func, "attr", ""))
                waiting.extend([] if name.startswith("__") else functions.get(name, []))
    return found


class Files(unittest.TestCase):
    def test_the_folder_contains_python_files_alone(self):
        names = [path.name for path in PACKAGE.iterdir() if path.name != "__pycache__"]
        self.assertIn("__init__.py", names)
        for name in names:
            self.assertRegex(name, r"\A[a-z0-9_]+\.py\Z")
        self.assertLessEqual(len(names), 100)

    @each_file
    def test_sizes(self, name, text, tree):
        lines = text.split("\n")
        self.assertLessEqual(len(lines) - 1, 399)
        self.assertLessEqual(max(len(line) for line in lines), 120)
        for node in nodes_of(tree, ast.FunctionDef):
            self.assertLessEqual(node.end_lineno - node.lineno + 1, 40, node.name)

    @each_file
    def test_characters(self, name, text, tree):
        self.assertTrue(text.endswith("\n"))
        self.assertEqual([sign for sign in text if sign != "\n" and not " " <= sign <= "~"], [])


class Modules(unittest.TestCase):
    @each_file
    def test_imports(self, name, text, tree):
        for node in nodes_of(tree, ast.ImportFrom):
            self.assertEqual(node.level, 0)
            self.assertIn(node, tree.body)
            names = {alias.name for alias in node.names}
            if node.module in LIBRARY:
                self.assertLessEqual(names, set(LIBRARY[node.module]))
                self.assertEqual({alias.asname for alias in node.names}, {None})
            else:
                package, _, file = node.module.partition(".")
                self.assertEqual(package, PACKAGE.name)
                source = ast.parse((PACKAGE / (file + ".py")).read_text(encoding="utf-8"))
                self.assertLessEqual(names, set(top_names(source)) - set(imported(source)))

    def test_no_two_files_import_from_each_other(self):
        below = {}
        for path in PACKAGE.rglob("*.py"):
            nodes = nodes_of(ast.parse(path.read_text(encoding="utf-8")), ast.ImportFrom)
            below[path.stem] = {node.module.partition(".")[2] for node in nodes}
        while below:
            ready = [name for name in below if not below[name] & set(below)]
            self.assertTrue(ready, "files in a circle: " + ", ".join(below))
            below = {name: below[name] for name in below if name not in ready}

    @each_file
    def test_imported_names_are_used(self, name, text, tree):
        used = {node.id for node in nodes_of(tree, ast.Name)}
        if name != "__init__.py":
            self.assertLessEqual(set(imported(tree)) - {"annotations"}, used)

    @each_file
    def test_module_level(self, name, text, tree):
        names = top_names(tree)
        self.assertNotIn(None, names)
        self.assertEqual(sorted(set(names)), sorted(names))


class Code(unittest.TestCase):
    @each_file
    def test_nodes_that_do_not_occur(self, name, text, tree):
        self.assertEqual(nodes_of(tree, BARRED_NODES), [])
        for node in nodes_of(tree, ast.Constant):
            self.assertNotIsInstance(node.value, (float, complex), node.lineno)

    @each_file
    def test_names(self, name, text, tree):
        bound = bound_names(tree)
        self.assertEqual(sorted(set(bound) & ATTRIBUTES_ALONE), [])
        attributes = [node.attr for node in nodes_of(tree, ast.Attribute)]
        for word in bound + attributes + [node.arg for node in nodes_of(tree, ast.keyword) if node.arg]:
            self.assertNotIn(word, NOWHERE)
            self.assertFalse(word.startswith(BARRED_STEMS), word)
            self.assertRegex(word, r"\A(_|_?[A-Za-z][A-Za-z0-9_]*|__[a-z]+__)\Z")
            if word.startswith("__"):
                self.assertIn(word, METHODS)

    @each_file
    def test_builtins_are_the_allowed_ones_and_keep_their_meaning(self, name, text, tree):
        methods = [node.name for part in nodes_of(tree, ast.ClassDef) for node in part.body if hasattr(node, "name")]
        bound = set(bound_names(tree))
        self.assertEqual(sorted(bound & BUILTINS), [])
        # The examples of README.md leave their last answer there as _.
        self.assertEqual(sorted(bound & set(dir(builtins)) - set(methods) - {"_"}), [])
        for node in nodes_of(tree, ast.Name):
            self.assertIn(node.id, bound | BUILTINS, node.lineno)

    @each_file
    def test_strings(self, name, text, tree):
        skipped = docstrings(tree)
        for node in nodes_of(tree, ast.Constant):
            if isinstance(node.value, str) and node not in skipped:
                self.assertNotIn("%", node.value)
                self.assertEqual(set(re.findall(r"\w+", node.value)) & BARRED_WORDS, set())
                self.assertFalse(node.value.startswith("__") and node.value.endswith("__"), node.value)

    @each_file
    def test_is_compares_with_constants(self, name, text, tree):
        for node in nodes_of(tree, ast.Compare):
            if any(isinstance(sign, (ast.Is, ast.IsNot)) for sign in node.ops):
                sides = [node.left] + node.comparators
                told = any(isinstance(side, ast.Constant) for side in sides)
                asked = any(isinstance(side, ast.Call) and getattr(side.func, "id", "") == "type" for side in sides)
                self.assertTrue(told or asked, node.lineno)

    @each_file
    def test_decorators(self, name, text, tree):
        for node in nodes_of(tree, DEFINITIONS):
            names = [getattr(part, "id", getattr(part, "attr", "")) for part in node.decorator_list]
            self.assertLessEqual(set(names), {"property", "staticmethod", "classmethod", "setter"})


class BesideOperators(unittest.TestCase):
    """Rules that hold because classes of the package have operators."""

    @each_file
    def test_lists_in_place_of_generator_expressions(self, name, text, tree):
        for node in calls_of(tree, "any all min max sum sorted"):
            self.assertEqual([part for part in node.args if isinstance(part, ast.GeneratorExp)], [], node.lineno)

    @each_file
    def test_what_is_compared_is_plainly_a_number_or_a_string(self, name, text, tree):
        for node in calls_of(tree, "min max sorted"):
            if len(node.args) > 1:
                self.assertTrue(any(is_plainly_comparable(part) for part in node.args), node.lineno)
            else:
                self.assertTrue(isinstance(node.args[0], ast.ListComp), node.lineno)
                self.assertTrue(is_plainly_comparable(node.args[0].elt), node.lineno)

    @each_file
    def test_only_literal_numbers_are_added_in_place(self, name, text, tree):
        for node in nodes_of(tree, ast.AugAssign):
            self.assertIsInstance(node.target, ast.Name, node.lineno)
            self.assertIsInstance(node.op, (ast.Add, ast.Sub), node.lineno)
            self.assertIsInstance(node.value, ast.Constant, node.lineno)
            self.assertIs(type(node.value.value), int, node.lineno)

    @each_file
    def test_what_is_reversed(self, name, text, tree):
        for node in calls_of(tree, "reversed"):
            inner = node.args[0]
            self.assertIn(getattr(getattr(inner, "func", None), "id", ""), ("list", "tuple", "sorted", "range"), node.lineno)

    @each_file
    def test_a_class_with_items_says_how_it_is_iterated_over(self, name, text, tree):
        for node in nodes_of(tree, ast.ClassDef):
            methods = [part.name for part in node.body if isinstance(part, ast.FunctionDef)]
            if "__getitem__" in methods:
                self.assertIn("__iter__", methods, node.name)
            for word in ("(type)", "Meta", "metaclass="):
                self.assertNotIn(word, text)

    @each_file
    def test_in_place_methods_and_hashes_do_not_occur(self, name, text, tree):
        for node in nodes_of(tree, ast.FunctionDef):
            self.assertNotRegex(node.name, r"\A__(i(add|sub|mul|floordiv|mod|pow|and|or|xor|lshift|rshift)|hash)__\Z")

    def test_operators_change_only_what_they_surely_created(self):
        found = run_by_operators([ast.parse(path.read_text(encoding="utf-8")) for path in PACKAGE.rglob("*.py")])
        for name in ("__mul__", "__rshift__", "multiplied", "divided", "changed", "is_tree"):
            self.assertIn(name, [node.name for node in found])
        for function in found:
            for value in changed_values(function):
                name = getattr(value, "id", "")
                if (function.name, name) != ("__init__", "self"):
                    values = assigned_values(function, name)
                    self.assertTrue(values and all(surely_created(part) for part in values), (function.name, ast.dump(value)))

    @each_file
    def test_exponents_are_literals(self, name, text, tree):
        for node in nodes_of(tree, ast.BinOp):
            if isinstance(node.op, ast.Pow):
                self.assertIn(getattr(node.right, "value", None), range(65), node.lineno)

    @each_file
    def test_no_name_of_a_function_hides_an_import_or_a_class(self, name, text, tree):
        barred = set(imported(tree)) | {node.name for node in nodes_of(tree, ast.ClassDef)}
        for function in nodes_of(tree, ast.FunctionDef):
            names = [node.arg for node in nodes_of(function, ast.arg)]
            names += [node.id for node in nodes_of(function, ast.Name) if not isinstance(node.ctx, ast.Load)]
            self.assertEqual(sorted(set(names) & barred), [], function.name)

    def test_names_of_static_methods_and_properties_are_no_attributes(self):
        trees = [ast.parse(path.read_text(encoding="utf-8")) for path in PACKAGE.rglob("*.py")]
        decorated = [
            part.name for tree in trees for node in nodes_of(tree, ast.ClassDef) for part in node.body
            if isinstance(part, ast.FunctionDef) and part.decorator_list
        ]
        stored = [
            node.attr for tree in trees for node in nodes_of(tree, ast.Attribute) if not isinstance(node.ctx, ast.Load)
        ]
        plain = [
            part.name for tree in trees for node in nodes_of(tree, ast.ClassDef) for part in node.body
            if isinstance(part, ast.FunctionDef) and not part.decorator_list
        ]
        self.assertEqual(sorted(set(decorated) & set(stored + plain)), [])

    def test_generators_are_iterated_at_once(self):
        trees = [ast.parse(path.read_text(encoding="utf-8")) for path in PACKAGE.rglob("*.py")]
        functions = [node for tree in trees for node in nodes_of(tree, ast.FunctionDef)]
        names = {node.name for node in functions if nodes_of(node, (ast.Yield, ast.YieldFrom))}
        self.assertEqual(sorted(names), sorted(node.name for node in functions if node.name in names))
        for tree in trees:
            at_once = [node.iter for node in nodes_of(tree, (ast.For, ast.comprehension))]
            at_once += [node.value for node in nodes_of(tree, ast.YieldFrom)]
            for node in nodes_of(tree, ast.Call):
                if getattr(node.func, "id", getattr(node.func, "attr", "")) in names:
                    self.assertIn(node, at_once, node.lineno)
                    for part in node.args:
                        self.assertIsInstance(part, (ast.Name, ast.Attribute, ast.Constant), node.lineno)


if __name__ == "__main__":
    unittest.main()

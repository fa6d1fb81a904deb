"""The rules of ../shared/LANGUAGE.md that can be looked at simply, over all files of the package."""

import ast
import builtins
import re
import unittest
from pathlib import Path

PACKAGE = Path(__file__).resolve().parent.parent / "wallwalks"
FILES = sorted(path for path in PACKAGE.iterdir() if path.name != "__pycache__")

BUILTINS = set(
    "len range enumerate zip min max sum abs sorted reversed int str bool bytes list tuple dict set frozenset isinstance "
    "ord repr any all divmod pow map iter next super property staticmethod NotImplemented True False None Exception "
    "ValueError TypeError KeyError IndexError LookupError ZeroDivisionError ArithmeticError OverflowError RuntimeError "
    "NotImplementedError".split()
)
METHODS = set(
    "append clear copy count endswith extend find get index insert isalnum isalpha isdigit islower isspace isupper items "
    "join keys ljust lower lstrip partition pop remove replace reverse rfind rjust rpartition rsplit rstrip setdefault "
    "split splitlines startswith strip update upper values zfill bit_length isascii isdecimal removeprefix removesuffix".split()
)
DUNDERS = set(
    "__init__ __eq__ __bool__ __add__ __radd__ __sub__ __rsub__ __mul__ __rmul__ __neg__ __pow__ __len__ __contains__ "
    "__enter__ __exit__".split()
)
BARRED_WORDS = set(
    "type typing typing_extensions enum Enum IntEnum StrEnum Flag IntFlag Generic Protocol ABC ABCMeta namedtuple "
    "NamedTuple TypedDict TYPE_CHECKING abstractmethod dataclass overload contextmanager".split()
)
BARRED_NAMES = set(
    "register mro elements open input law version_info with_traceback add_note attrgetter breakpoint compile delattr dir "
    "eval exec exit gc getattr globals hasattr help id importlib license locals methodcaller os quit setattr type vars sys".split()
)
BUILTIN_VALUES = ("", 0, [], {}, b"", set(), (), 1.5)


def names_bound(tree):
    """Names of variables, parameters, functions, classes and imports, with the lines where they are bound."""
    for node in ast.walk(tree):
        if isinstance(node, ast.Name) and isinstance(node.ctx, ast.Store):
            yield node.id, node.lineno
        elif isinstance(node, ast.arg):
            yield node.arg, node.lineno
        elif isinstance(node, (ast.FunctionDef, ast.ClassDef)):
            yield node.name, node.lineno
        elif isinstance(node, ast.alias):
            yield node.asname or node.name, node.lineno


def docstrings(tree):
    for node in ast.walk(tree):
        if isinstance(node, (ast.Module, ast.FunctionDef, ast.ClassDef)) and ast.get_docstring(node) is not None:
            yield node.body[0].value


def trees():
    """Each file with its text and its tree."""
    for path in FILES:
        text = path.read_text(encoding="utf-8")
        yield path, text, ast.parse(text)


def each_file(look):
    """A test that looks at the text and the tree of each file."""
    def test(self):
        for path, text, tree in trees():
            with self.subTest(file=path.name):
                look(self, text, tree)
    return test


class LanguageTest(unittest.TestCase):
    def test_files(self):
        for path in FILES:
            self.assertTrue(path.is_file())
            self.assertRegex(path.name, r"^[a-z_][a-z0-9_]*\.py$")
        self.assertIn("__init__.py", [path.name for path in FILES])
        self.assertLessEqual(len(FILES), 100)

    @each_file
    def test_sizes_and_characters(self, text, tree):
        lines = text.split("\n")
        self.assertLessEqual(len(lines), 399)
        self.assertTrue(text.endswith("\n"))
        for at, line in enumerate(lines, start=1):
            self.assertLessEqual(len(line), 120, at)
            self.assertEqual(line, line.rstrip(), at)
        self.assertEqual([c for c in text if c != "\n" and not " " <= c <= "~"], [])
        for node in ast.walk(tree):
            if isinstance(node, ast.FunctionDef):
                self.assertLessEqual(node.end_lineno - node.lineno + 1, 40, node.name)

    def only_called(self, tree, names):
        """What is taken from Python's library stands in calls alone, with all arguments by position."""
        self.assertLessEqual(set(names), {"gcd", "lcm", "isqrt", "comb", "perm", "factorial"})
        calls = [node for node in ast.walk(tree) if isinstance(node, ast.Call)]
        called = [node.func for node in calls]
        for node in ast.walk(tree):
            if isinstance(node, ast.Name) and node.id in names:
                self.assertIn(node, called)
        for node in calls:
            if isinstance(node.func, ast.Name) and node.func.id in names:
                self.assertFalse(node.keywords)

    def test_imports(self):
        before = {}
        for path, _, tree in trees():
            for node in ast.walk(tree):
                self.assertNotIsInstance(node, ast.Import)
                if isinstance(node, ast.ImportFrom) and node.module == "math":
                    self.assertIn(node, tree.body)
                    self.only_called(tree, [alias.name for alias in node.names])
                elif isinstance(node, ast.ImportFrom):
                    self.assertIn(node, tree.body)
                    self.assertRegex(node.module, r"^wallwalks\.[a-z]+$")
                    self.assertEqual(node.level, 0)
                    home = ast.parse((PACKAGE / (node.module.split(".")[1] + ".py")).read_text())
                    defined = {name for part in home.body if not isinstance(part, ast.ImportFrom)
                               for name in ([part.name] if hasattr(part, "name") else
                                            [x.id for x in getattr(part, "targets", [])])}
                    for alias in node.names:
                        self.assertIn(alias.name, defined)
                        self.assertIsNone(alias.asname)
                    before.setdefault(path.stem, set()).add(node.module.split(".")[1])
        while before:
            free = [name for name, needs in before.items() if not needs & set(before)]
            self.assertTrue(free, f"files import each other: {before}")
            for name in free:
                del before[name]

    @each_file
    def test_imported_names_are_used(self, text, tree):
        used = {node.id for node in ast.walk(tree) if isinstance(node, ast.Name)}
        for node in ast.walk(tree):
            if isinstance(node, ast.alias):
                self.assertIn(node.name, used)

    @each_file
    def test_module_level(self, text, tree):
        for node in tree.body:
            self.assertIsInstance(node, (ast.Expr, ast.ImportFrom, ast.FunctionDef, ast.ClassDef, ast.Assign))
            if isinstance(node, ast.Assign):
                self.assertEqual([type(target) for target in node.targets], [ast.Name])
                self.assertFalse([x for x in ast.walk(node.value) if isinstance(x, (ast.Call, ast.ListComp))])
            if isinstance(node, ast.Expr):
                self.assertIsInstance(node.value, ast.Constant)

    @each_file
    def test_statements_and_expressions(self, text, tree):
        barred = (
            ast.Global, ast.AsyncFunctionDef, ast.Await, ast.AnnAssign, ast.Div, ast.NamedExpr, ast.Starred, ast.Yield,
            ast.YieldFrom, ast.Set, ast.GeneratorExp, ast.Try, ast.Match, ast.Lambda, ast.Delete, ast.SetComp,
        )
        for node in ast.walk(tree):
            self.assertNotIsInstance(node, barred, getattr(node, "lineno", 0))
            if isinstance(node, ast.Constant):
                self.assertNotIsInstance(node.value, (float, complex))
            if isinstance(node, ast.BinOp) and isinstance(node.op, ast.Pow):
                self.assertIsInstance(node.right, ast.Constant)
            if isinstance(node, ast.Compare):
                for op, side in zip(node.ops, node.comparators):
                    if isinstance(op, (ast.Is, ast.IsNot)) and ast.unparse(node.left) != "self":
                        self.assertIsInstance(side, ast.Constant)
            if isinstance(node, ast.AugAssign):
                self.assertIsInstance(node.target, ast.Name)
                self.assertIsInstance(node.value, ast.Constant)
            if isinstance(node, ast.With):
                self.assertEqual([ast.unparse(item) for item in node.items], ["self.trial()"])
            if isinstance(node, ast.Raise):
                self.assertIsInstance(node.exc, ast.Call)
                self.assertFalse(node.exc.keywords)
            if isinstance(node, ast.FunctionDef):
                self.assertIsNone(node.returns)
                self.assertFalse([x for x in ast.walk(node) if isinstance(x, ast.FunctionDef) and x is not node])
                for decorator in node.decorator_list:
                    self.assertIn(ast.unparse(decorator), ("property", "staticmethod"))
            if isinstance(node, ast.ClassDef):
                self.assertFalse(node.decorator_list)
                self.assertIn(node, tree.body)

    @each_file
    def test_names(self, text, tree):
        self.assertNotIn("_wall", text)
        imported = {node.name for node in ast.walk(tree) if isinstance(node, ast.alias)}
        classes = {node.name for node in ast.walk(tree) if isinstance(node, ast.ClassDef)}
        at_module_level = [node.name for node in tree.body if isinstance(node, (ast.FunctionDef, ast.ClassDef))]
        at_module_level += [target.id for node in tree.body if isinstance(node, ast.Assign) for target in node.targets]
        at_module_level += sorted(imported)
        self.assertEqual(len(at_module_level), len(set(at_module_level)))
        methods = {node for part in tree.body if isinstance(part, ast.ClassDef) for node in part.body}
        for node in methods:
            if isinstance(node, ast.FunctionDef) and node.name.startswith("__"):
                self.assertIn(node.name, DUNDERS)
            elif isinstance(node, ast.FunctionDef):
                for value in BUILTIN_VALUES:
                    self.assertFalse(hasattr(value, node.name), node.name)
        for name, line in names_bound(tree):
            if name.startswith("__") and name in DUNDERS:
                continue
            self.assertRegex(name, r"^(_|_?[A-Za-z][A-Za-z0-9_]*)$", line)
            self.assertNotIn(name, BARRED_NAMES, line)
            if not any(getattr(node, "name", None) == name for node in methods):
                self.assertFalse(hasattr(builtins, name), (name, line))
        for node in ast.walk(tree):
            if isinstance(node, ast.FunctionDef):
                inside = {x.arg for x in ast.walk(node) if isinstance(x, ast.arg)}
                inside |= {x.id for x in ast.walk(node) if isinstance(x, ast.Name) and isinstance(x.ctx, ast.Store)}
                self.assertFalse(inside & (imported | classes), node.name)
            if isinstance(node, ast.Name) and node.id == "_":
                self.assertIsInstance(node.ctx, ast.Store)

    def test_builtins_and_methods(self):
        own = set()
        for _, _, tree in trees():
            for part in tree.body:
                if isinstance(part, ast.ClassDef):
                    own |= {node.name for node in part.body if isinstance(node, ast.FunctionDef)}
        for _, _, tree in trees():
            bound = {name for name, _ in names_bound(tree)}
            for node in ast.walk(tree):
                if isinstance(node, ast.Name) and isinstance(node.ctx, ast.Load) and node.id not in bound:
                    self.assertIn(node.id, BUILTINS, node.lineno)
                if isinstance(node, ast.Call) and isinstance(node.func, ast.Attribute):
                    self.assertIn(node.func.attr, METHODS | own, node.lineno)
                    self.assertFalse(node.keywords, node.lineno)

    @each_file
    def test_iterated_at_once(self, text, tree):
        views = {"zip", "enumerate", "reversed", "items", "keys", "values"}
        takers = {"list", "tuple", "dict", "sorted", "sum", "any", "all", "enumerate", "zip", "join"}
        fine = set()
        for node in ast.walk(tree):
            if isinstance(node, (ast.For, ast.comprehension)):
                fine.add(node.iter)
            if isinstance(node, ast.Call) and node.args:
                name = node.func.id if isinstance(node.func, ast.Name) else getattr(node.func, "attr", "")
                if name in takers:
                    fine.add(node.args[0])
        for node in ast.walk(tree):
            if isinstance(node, ast.Call):
                name = node.func.id if isinstance(node.func, ast.Name) else getattr(node.func, "attr", "")
                if name in views:
                    self.assertIn(node, fine, node.lineno)

    @each_file
    def test_words_and_strings(self, text, tree):
        shown = set(docstrings(tree))
        plain = re.sub(r"#.*", "", text)
        for node in sorted(shown, key=lambda node: -len(node.value)):
            plain = plain.replace(node.value, "")
        for word in re.findall(r"\w+", plain):
            self.assertNotIn(word, BARRED_WORDS)
        for word in ("dataclass", "overload", "contextmanager"):
            self.assertNotIn(word, text)
        self.assertNotIn("\\", text)
        for node in ast.walk(tree):
            if isinstance(node, ast.Constant) and isinstance(node.value, str):
                self.assertNotIn("%", node.value)

    def is_such(self, value):
        """Whether an expression is a name, an attribute or a literal, as `__exit__` may assign them."""
        while isinstance(value, ast.Attribute):
            value = value.value
        return isinstance(value, (ast.Name, ast.Constant))

    @each_file
    def test_exits(self, text, tree):
        """The rows of `__exit__` only assign, and ask only whether there is an exception."""
        for function in [node for node in ast.walk(tree) if isinstance(node, ast.FunctionDef) and node.name == "__exit__"]:
            rows = list(function.body)
            for row in rows:
                self.assertIsInstance(row, (ast.Assign, ast.If, ast.Pass))
                if isinstance(row, ast.If):
                    self.assertIn(ast.unparse(row.test), ("kind is None", "kind is not None"))
                    rows += row.body + row.orelse
                elif isinstance(row, ast.Assign):
                    self.assertEqual([type(target) for target in row.targets if self.is_such(target)], [type(row.targets[0])])
                    self.assertTrue(self.is_such(row.value))
            read = {node.id for node in ast.walk(function) if isinstance(node, ast.Name)}
            self.assertFalse(read & {argument.arg for argument in function.args.args[2:]})

    def test_properties_are_not_assigned(self):
        properties, assigned, methods = set(), {}, set()
        for path, _, tree in trees():
            for node in ast.walk(tree):
                if isinstance(node, ast.ClassDef):
                    own = [part for part in node.body if isinstance(part, ast.FunctionDef)]
                    told = {part.name for part in own if "property" in map(ast.unparse, part.decorator_list)}
                    properties |= told
                    methods |= {part.name for part in own} - told
                if isinstance(node, ast.Attribute) and isinstance(node.ctx, ast.Store):
                    assigned[node.attr] = (path.name, node.lineno)
        for name in properties:
            self.assertNotIn(name, assigned)
            self.assertNotIn(name, methods)

    def test_attributes_that_are_read_are_assigned(self):
        assigned, read = set(), {}
        for path, _, tree in trees():
            for node in ast.walk(tree):
                if isinstance(node, ast.Attribute):
                    if isinstance(node.ctx, ast.Store):
                        assigned.add(node.attr)
                    else:
                        read[node.attr] = (path.name, node.lineno)
                if isinstance(node, ast.ClassDef):
                    assigned |= {part.name for part in node.body if isinstance(part, ast.FunctionDef)}
        for name, place in read.items():
            if name not in METHODS:
                self.assertIn(name, assigned, place)


CHANGING = {"append", "clear", "extend", "insert", "pop", "remove", "reverse", "setdefault", "sort", "update", "add", "discard"}
MAKERS = {"list", "dict", "set", "sorted"}

# The double-underscore methods that may change what their objects hold.
RUN_ALOUD = ("__init__", "__enter__", "__exit__")


class QuietCode:
    """All that properties and operators of the package run, themselves too, found by names alone."""

    def __init__(self):
        self.functions, self.methods, self.makings, self.held, start = {}, {}, {}, set(), []
        for path, _, tree in trees():
            for part in tree.body:
                if isinstance(part, ast.FunctionDef):
                    self.functions.setdefault(part.name, []).append((path.name, part))
                if isinstance(part, ast.ClassDef):
                    own = [node for node in part.body if isinstance(node, ast.FunctionDef)]
                    self.makings[part.name] = [(path.name, node) for node in own if node.name == "__init__"]
                    for node in own:
                        self.methods.setdefault(node.name, []).append((path.name, node))
                        told = [ast.unparse(decorator) for decorator in node.decorator_list]
                        if "property" in told or node.name.startswith("__") and node.name not in RUN_ALOUD:
                            start.append((path.name, node))
            for node in ast.walk(tree):
                if isinstance(node, ast.Attribute) and isinstance(node.ctx, ast.Store):
                    self.held.add(node.attr)
        self.reached = self.all_from(start)

    def called(self, node):
        if isinstance(node.func, ast.Name):
            return self.makings.get(node.func.id, []) + self.functions.get(node.func.id, [])
        return self.methods.get(node.func.attr, []) if isinstance(node.func, ast.Attribute) else []

    def all_from(self, start):
        found = list(start)
        for _, function in found:
            for node in ast.walk(function):
                if isinstance(node, ast.Call):
                    found += [place for place in self.called(node) if place not in found]
        return found

    def is_created(self, value):
        """Whether an expression is a new list, dict or object of an own class."""
        if isinstance(value, (ast.List, ast.Dict, ast.ListComp, ast.DictComp)):
            return True
        if isinstance(value, ast.BinOp):
            # Classes have signs of their own: a sum is a new list only if both sides are, and a product is not taken for one.
            return isinstance(value.op, ast.Add) and self.is_created(value.left) and self.is_created(value.right)
        if isinstance(value, ast.Subscript):
            return isinstance(value.slice, ast.Slice)
        return (isinstance(value, ast.Call) and isinstance(value.func, ast.Name)
                and value.func.id in MAKERS | set(self.makings))

    def created(self, function):
        """The local names that are assigned nothing but what the function creates."""
        told, others = set(), {argument.arg for argument in function.args.args}
        for node in ast.walk(function):
            if isinstance(node, ast.Assign):
                for target in node.targets:
                    if isinstance(target, ast.Name) and self.is_created(node.value):
                        told.add(target.id)
                    else:
                        others |= {x.id for x in ast.walk(target) if isinstance(x, ast.Name) and isinstance(x.ctx, ast.Store)}
            if isinstance(node, (ast.For, ast.comprehension)):
                others |= {x.id for x in ast.walk(node.target) if isinstance(x, ast.Name)}
        return told - others


class QuietTest(unittest.TestCase):
    """What properties and operators run changes nothing but what it created, and calls nothing that is held or passed."""

    def setUp(self):
        self.code = QuietCode()
        self.assertGreater(len(self.code.reached), 20)

    def test_nothing_is_called_by_the_name_of_an_attribute(self):
        for file, function in self.code.reached:
            for node in ast.walk(function):
                if isinstance(node, ast.Call) and isinstance(node.func, ast.Attribute):
                    self.assertNotIn(node.func.attr, self.code.held, (file, node.lineno))

    def test_nothing_that_is_passed_is_called(self):
        for file, function in self.code.reached:
            local = {name for name, _ in names_bound(function)} - {function.name}
            for node in ast.walk(function):
                if isinstance(node, ast.Call):
                    self.assertIsInstance(node.func, (ast.Name, ast.Attribute), (file, node.lineno))
                    if isinstance(node.func, ast.Name):
                        self.assertNotIn(node.func.id, local, (file, node.lineno))

    def test_only_what_was_created_is_changed(self):
        for file, function in self.code.reached:
            own = self.code.created(function) | ({"self"} if function.name == "__init__" else set())
            for node in ast.walk(function):
                if isinstance(node, (ast.Attribute, ast.Subscript)) and isinstance(node.ctx, (ast.Store, ast.Del)):
                    self.assertIn(ast.unparse(node.value), own, (file, node.lineno))
                if isinstance(node, ast.Call) and isinstance(node.func, ast.Attribute) and node.func.attr in CHANGING:
                    self.assertIn(ast.unparse(node.func.value), own, (file, node.lineno))


if __name__ == "__main__":
    unittest.main()

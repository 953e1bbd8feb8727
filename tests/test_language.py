"""That the package keeps to LANGUAGE.md, as far as a test can look at it."""

import ast
import builtins
import pathlib
import re
import unittest

PACKAGE = pathlib.Path(__file__).parent.parent / "bendsigns"
FILES = sorted(PACKAGE.glob("*.py"))
TEXTS = {path.stem: path.read_text(encoding="utf-8") for path in FILES}
TREES = {name: ast.parse(text) for name, text in TEXTS.items()}

# The kinds of syntax that the package uses; what is not here has its own rules, to be read ahead of using it.
SYNTAX = {
    "Module", "ImportFrom", "alias", "FunctionDef", "ClassDef", "arguments", "arg", "Return", "Assign", "AugAssign",
    "For", "While", "If", "Raise", "Try", "ExceptHandler", "Expr", "Attribute", "Subscript", "Slice", "Starred", "Name",
    "List", "Tuple", "ListComp", "comprehension", "Lambda", "BoolOp", "And", "Or", "BinOp", "Add", "Sub", "Mult",
    "FloorDiv", "Mod", "UnaryOp", "USub", "Not", "IfExp", "Compare", "Eq", "NotEq", "Lt", "LtE", "Gt", "GtE", "In",
    "NotIn", "Is", "IsNot", "Call", "keyword", "Constant", "Load", "Store", "Yield",
    "Dict", "Pow",
}
LIBRARY = {"math": {"gcd", "lcm", "isqrt", "comb", "perm", "factorial"}}
BUILTINS = set(
    "len range enumerate zip min max sum abs sorted reversed int str bool list tuple dict set isinstance ord repr any "
    "all divmod ValueError".split()
)
ITERATED = {"range", "enumerate", "zip", "reversed"}
ITERATING = {"list", "tuple", "dict", "sorted", "sum", "any", "all", "enumerate", "zip", "min", "max", "len"}
METHODS = set(
    "append clear copy count endswith extend find get index insert isalnum isalpha isdigit islower isspace isupper "
    "items join keys ljust lower lstrip partition pop remove replace reverse rfind rjust rpartition rsplit rstrip "
    "setdefault split splitlines startswith strip update upper values zfill bit_length".split()
)
DOUBLE = {"__init__", "__eq__", "__repr__", "__str__", "__len__", "__bool__", "__contains__", "__call__", "__add__",
          "__sub__", "__mul__", "__neg__"}
ARITHMETIC = {"__add__", "__sub__", "__mul__"}
BARRED = set(
    "type typing typing_extensions enum Enum IntEnum StrEnum Flag IntFlag Generic Protocol ABC ABCMeta namedtuple "
    "NamedTuple TypedDict TYPE_CHECKING abstractmethod".split()
)
UNUSED = set(
    "register mro elements open input law version_info with_traceback add_note attrgetter breakpoint builtins compile "
    "copyright credits delattr dir eval exec exit gc getattr globals hasattr help id importlib license locals "
    "methodcaller os quit setattr super type vars sys".split()
)
FOLDERS_BARRED = {"test", "tests", "testing", "site", "conftest", "sitecustomize", "usercustomize"}


def nodes(kinds):
    """(file, node) for all nodes of these kinds."""
    return [(name, node) for name, tree in TREES.items() for node in ast.walk(tree) if isinstance(node, kinds)]


def docstrings(tree):
    """The nodes of all docstrings of a file."""
    found = []
    for node in ast.walk(tree):
        if isinstance(node, (ast.Module, ast.FunctionDef, ast.ClassDef)) and node.body:
            first = node.body[0]
            if isinstance(first, ast.Expr) and isinstance(first.value, ast.Constant) and isinstance(first.value.value, str):
                found.append(first.value)
    return found


def parameters(function):
    """The names of all parameters of a function or a lambda."""
    told = function.args
    rows = told.posonlyargs + told.args + told.kwonlyargs + [each for each in (told.vararg, told.kwarg) if each]
    return [each.arg for each in rows]


def is_table_of_functions(value, above):
    """Whether a value is a dict of functions that are defined above it, by literal keys."""
    return isinstance(value, ast.Dict) and all(
        isinstance(key, ast.Constant) and isinstance(each, ast.Name) and each.id in above
        for key, each in zip(value.keys, value.values))


def tables_of_functions(tree):
    """The names of all tables of functions of a file."""
    every = [node.name for node in tree.body if isinstance(node, ast.FunctionDef)]
    return {node.targets[0].id for node in tree.body
            if isinstance(node, ast.Assign) and is_table_of_functions(node.value, every) and node.value.keys}


def called_locals(tree):
    """The local variables of a file that may be called: items of a table of functions, and desks."""
    found = set()
    for node in ast.walk(tree):
        if isinstance(node, ast.Assign) and isinstance(node.targets[0], ast.Name):
            value = node.value
            if isinstance(value, ast.Subscript) and isinstance(value.value, ast.Name):
                if value.value.id in tables_of_functions(tree):
                    found.add(node.targets[0].id)
            if ast.unparse(value) in ("Desk()", "self.twin()"):
                found.add(node.targets[0].id)
    return found


def own_names():
    """The names of all functions, methods and classes that the package defines."""
    return {node.name for name, node in nodes((ast.FunctionDef, ast.ClassDef))}


def error_classes():
    """The names of the own error classes."""
    return {node.name for node in TREES["errors"].body if isinstance(node, ast.ClassDef)}


class Files(unittest.TestCase):
    """Files, lines and characters."""

    def test_files(self):
        for path in PACKAGE.rglob("*"):
            if "__pycache__" not in path.parts:
                self.assertTrue(path.is_file() and path.suffix == ".py", path)
        for path in FILES:
            self.assertRegex(path.stem, r"^(__init__|[a-z][a-z0-9_]*)$")
            self.assertNotIn(path.stem, FOLDERS_BARRED | BARRED | {"heapq", "math", "itertools"} | set(dir(builtins)))
            self.assertFalse(path.stem.startswith(("test_", "law_")))
        self.assertLessEqual(len(FILES), 100)
        self.assertIn("__init__", TEXTS)

    def test_lines(self):
        for name, text in TEXTS.items():
            self.assertTrue(all(char == "\n" or " " <= char <= "~" for char in text), name)
            self.assertLessEqual(len(text.split("\n")), 399, name)
            for line in text.split("\n"):
                self.assertLessEqual(len(line), 120, (name, line))
                self.assertEqual(line, line.rstrip(), name)

    def test_functions(self):
        for name, node in nodes(ast.FunctionDef):
            self.assertLessEqual(node.end_lineno - min([node.lineno] + [each.lineno for each in node.decorator_list]) + 1, 40)
            self.assertTrue(ast.get_docstring(node) or node.name in DOUBLE, (name, node.name))

    def test_no_warnings(self):
        import warnings
        for name, text in TEXTS.items():
            with warnings.catch_warnings():
                warnings.simplefilter("error")
                compile(text, name, "exec")


class Imports(unittest.TestCase):
    """What is imported, and from where."""

    def imports(self, name):
        """The imports of a file."""
        return [node for node in TREES[name].body if isinstance(node, ast.ImportFrom)]

    def test_forms(self):
        for name in TEXTS:
            bound = []
            for node in self.imports(name):
                self.assertEqual(node.level, 0)
                for each in node.names:
                    self.assertIsNone(each.asname)
                    self.assertNotEqual(each.name, "*")
                    bound.append(each.name)
                    if node.module in LIBRARY:
                        self.assertIn(each.name, LIBRARY[node.module])
                    else:
                        package, file = node.module.split(".")
                        self.assertEqual(package, "bendsigns")
                        self.assertIn(each.name, self.top_names(file), (name, each.name))
            used = {node.id for node in ast.walk(TREES[name]) if isinstance(node, ast.Name)}
            self.assertEqual([each for each in bound if each not in used], [], name)
            self.assertEqual(len(bound), len(set(bound)))

    def top_names(self, name):
        """What a file itself binds at its module level."""
        told = [node.name for node in TREES[name].body if isinstance(node, (ast.FunctionDef, ast.ClassDef))]
        return told + [node.targets[0].id for node in TREES[name].body if isinstance(node, ast.Assign)]

    def test_all_at_the_top(self):
        for name, tree in TREES.items():
            kinds = [isinstance(node, ast.ImportFrom) for node in tree.body if not isinstance(node, ast.Expr)]
            self.assertEqual(kinds, sorted(kinds, reverse=True))
            self.assertEqual(len([node for node in ast.walk(tree) if isinstance(node, (ast.Import, ast.ImportFrom))]),
                             sum(kinds))

    def test_no_circles(self):
        left = {name: {node.module.split(".")[-1] for node in self.imports(name) if node.module not in LIBRARY}
                for name in TEXTS}
        while left:
            free = [name for name, needed in left.items() if not needed & set(left)]
            self.assertTrue(free, left)
            for name in free:
                del left[name]

    def test_library_names(self):
        for name in TEXTS:
            library = {each.name for node in self.imports(name) if node.module in LIBRARY for each in node.names}
            called = [node.func for node in ast.walk(TREES[name]) if isinstance(node, ast.Call)]
            for node in ast.walk(TREES[name]):
                if isinstance(node, ast.Name) and node.id in library:
                    self.assertIn(node, called, (name, node.id))
                if isinstance(node, ast.Call) and isinstance(node.func, ast.Name) and node.func.id in library:
                    self.assertEqual(node.keywords, [])
                    self.assertFalse(any(isinstance(each, ast.Starred) for each in node.args))


class Statements(unittest.TestCase):
    """Module level, classes, functions, statements."""

    def test_kinds_of_syntax(self):
        for name, node in nodes(ast.AST):
            self.assertIn(type(node).__name__, SYNTAX, (name, getattr(node, "lineno", None)))

    def test_module_level(self):
        for name, tree in TREES.items():
            bound = []
            self.assertTrue(ast.get_docstring(tree), name)
            for node in tree.body[1:]:
                self.assertIsInstance(node, (ast.ImportFrom, ast.FunctionDef, ast.ClassDef, ast.Assign), name)
                if isinstance(node, ast.Assign):
                    self.assertEqual(len(node.targets), 1)
                    self.assertIsInstance(node.targets[0], ast.Name)
                    if not is_table_of_functions(node.value, bound):
                        ast.literal_eval(node.value)
                    bound.append(node.targets[0].id)
                elif not isinstance(node, ast.ImportFrom):
                    bound.append(node.name)
            self.assertEqual(len(bound), len(set(bound)), name)

    def test_classes(self):
        tops = [node for tree in TREES.values() for node in tree.body]
        for name, node in nodes(ast.ClassDef):
            self.assertIn(node, tops)
            self.assertEqual((node.decorator_list, node.keywords), ([], []))
            self.assertLessEqual(len(node.bases), 1)
            methods = [each for each in node.body[1:] if isinstance(each, ast.FunctionDef)]
            self.assertEqual(len(methods), len(node.body) - 1, (name, node.name))
            self.assertEqual(len({each.name for each in methods}), len(methods))

    def test_functions(self):
        for name, node in nodes(ast.FunctionDef):
            for each in node.decorator_list:
                self.assertIn(ast.unparse(each), ("staticmethod", "classmethod", "property"))
            for default in node.args.defaults + node.args.kw_defaults:
                ast.literal_eval(default)
            if node.name.startswith("__"):
                self.assertIn(node.name, DOUBLE)
            if node.name == "__init__":
                self.assertFalse([each for each in ast.walk(node) if isinstance(each, ast.Return)])
            self.assertIsNone(node.returns)

    def test_double_underscore_methods_change_nothing(self):
        for name, node in nodes(ast.FunctionDef):
            if node.name in DOUBLE - {"__init__", "__call__"}:
                for each in ast.walk(node):
                    self.assertNotIsInstance(each, (ast.AugAssign, ast.Yield, ast.Try, ast.Delete), (name, node.name))
                    if isinstance(each, (ast.Attribute, ast.Subscript)):
                        self.assertIsInstance(each.ctx, ast.Load, (name, node.name))
                    if isinstance(each, ast.Call) and isinstance(each.func, ast.Attribute):
                        self.assertEqual(each.func.attr, "join", (name, node.name))
            if node.name in ARITHMETIC:
                told = ast.unparse(node.body[0]).split("\n")
                self.assertRegex(told[0], r"^if not isinstance\(other, [A-Z][a-z]+\):$")
                self.assertEqual(told[1].strip(), "return NotImplemented")
        for name, node in nodes(ast.Attribute):
            self.assertTrue(not node.attr.startswith("__") or node.attr in ("__init__", "__class__", "__name__"))

    def test_errors(self):
        own = error_classes()
        for name, node in nodes(ast.Raise):
            if node.exc is not None:
                self.assertIsInstance(node.exc, ast.Call)
                self.assertIn(node.exc.func.id, own)
            if node.cause is not None:
                self.assertIsNone(node.cause.value)
        for name, node in nodes(ast.ExceptHandler):
            self.assertIn(node.type.id, own)

    def test_loops_and_iterators(self):
        fine = []
        for name, node in nodes((ast.For, ast.comprehension)):
            fine.append(node.iter)
        for name, node in nodes(ast.Call):
            if isinstance(node.func, ast.Name) and node.func.id in ITERATING and node.args:
                fine.append(node.args[0])
        for name, node in nodes(ast.Call):
            if isinstance(node.func, ast.Name) and node.func.id in ITERATED:
                self.assertIn(node, fine, (name, node.lineno))


class Tables(unittest.TestCase):
    """Dicts and lists at module level, sets."""

    def test_tables_are_only_read(self):
        for name, tree in TREES.items():
            tables = {node.targets[0].id for node in tree.body
                      if isinstance(node, ast.Assign) and isinstance(node.value, (ast.Dict, ast.List))}
            fine = [node.value for node in ast.walk(tree)
                    if isinstance(node, ast.Subscript) and isinstance(node.ctx, ast.Load)]
            for node in ast.walk(tree):
                if isinstance(node, ast.Name) and node.id in tables and isinstance(node.ctx, ast.Load):
                    self.assertIn(node, fine, (name, node.id, node.lineno))
            for node in tree.body:
                if isinstance(node, ast.Assign) and isinstance(node.value, (ast.Dict, ast.List, ast.Tuple)):
                    inner = [each for each in ast.walk(node.value) if each is not node.value]
                    self.assertFalse([each for each in inner if isinstance(each, (ast.Dict, ast.List))])

    def test_sets_stand_in_sorted(self):
        fine = [node.args[0] for name, node in nodes(ast.Call)
                if isinstance(node.func, ast.Name) and node.func.id in ("sorted", "len") and not node.keywords and node.args]
        for name, node in nodes(ast.Call):
            if isinstance(node.func, ast.Name) and node.func.id == "set":
                self.assertIn(node, fine, (name, node.lineno))


class Generators(unittest.TestCase):
    """Functions that yield: what stands in them, and where they are called."""

    def generators(self):
        """(file, function) for all functions that yield."""
        return [(name, node) for name, node in nodes(ast.FunctionDef)
                if any(isinstance(each, ast.Yield) for each in ast.walk(node))]

    def test_what_stands_in_them(self):
        for name, node in self.generators():
            self.assertIn(node, TREES[name].body)
            self.assertEqual(node.decorator_list, [])
            statements = [each.value for each in ast.walk(node) if isinstance(each, ast.Expr)]
            for each in ast.walk(node):
                self.assertNotIsInstance(each, (ast.Try, ast.With, ast.Lambda))
                if isinstance(each, ast.Yield):
                    self.assertIn(each, statements)
                if isinstance(each, ast.Return):
                    self.assertIsNone(each.value)

    def test_names(self):
        told = [node.name for name, node in self.generators()]
        every = [node.name for name, node in nodes(ast.FunctionDef)]
        bound = {node.id for name, node in nodes(ast.Name) if isinstance(node.ctx, ast.Store)}
        bound.update(each for name, node in nodes((ast.FunctionDef, ast.Lambda)) for each in parameters(node))
        for each in told:
            self.assertEqual(every.count(each), 1)
            self.assertNotIn(each, METHODS | bound)

    def test_calls(self):
        told = {node.name for name, node in self.generators()}
        loops = [node.iter for name, node in nodes((ast.For, ast.comprehension))]
        for name, node in nodes(ast.Call):
            if isinstance(node.func, ast.Name) and node.func.id in told:
                self.assertIn(node, loops, (name, node.lineno))
                for each in node.args:
                    self.assertIsInstance(each, (ast.Name, ast.Attribute, ast.Constant))
        called = [node.func for name, node in nodes(ast.Call)]
        for name, node in nodes(ast.Name):
            if node.id in told:
                self.assertIn(node, called, (name, node.lineno))


class Expressions(unittest.TestCase):
    """Values, calls, names."""

    def test_constants(self):
        for name, node in nodes(ast.Constant):
            self.assertIn(type(node.value), (int, str, bool, type(None)), (name, node.lineno))
            if isinstance(node.value, str):
                self.assertNotIn("%", node.value)
                self.assertFalse(node.value.endswith(("._", ".__")))
                self.assertNotRegex(node.value, r"^__.*__$")

    def test_escapes(self):
        for name, text in TEXTS.items():
            self.assertEqual(re.findall(r"\\[^n t\\'\"]", text), [], name)

    def test_barred_words(self):
        for name, tree in TREES.items():
            told = docstrings(tree)
            words = []
            for node in ast.walk(tree):
                if isinstance(node, ast.Constant) and isinstance(node.value, str) and node not in told:
                    words.extend(re.findall(r"\w+", node.value))
                for field in ("id", "attr", "arg", "name"):
                    words.append(getattr(node, field, None))
            self.assertEqual(BARRED & set(words), set(), name)
            for word in ("_wall", "_WallAttr", "dataclass", "overload", "contextmanager"):
                self.assertNotIn(word, TEXTS[name])

    def test_names(self):
        for name, node in nodes((ast.FunctionDef, ast.ClassDef, ast.Name, ast.arg, ast.keyword)):
            told = getattr(node, "name", None) or getattr(node, "id", None) or getattr(node, "arg", None)
            if told is not None and not (isinstance(node, ast.FunctionDef) and told in DOUBLE):
                self.assertRegex(told, r"^(_|_?[A-Za-z][A-Za-z0-9_]*)$", name)
                self.assertNotIn(told, UNUSED, name)
        for name, node in nodes(ast.Attribute):
            self.assertTrue(re.match("_?[a-z]", node.attr) or node.attr in ("__init__", "__class__", "__name__"))
        for name, text in TEXTS.items():
            plain = re.sub(r"\w+\.__class__\.__name__", "", text)
            self.assertNotIn("__class__", plain)
            self.assertNotIn("__name__", plain)

    def test_no_name_of_a_builtin(self):
        for name, tree in TREES.items():
            told = {node.id for node in ast.walk(tree) if isinstance(node, ast.Name) and isinstance(node.ctx, ast.Store)}
            for node in ast.walk(tree):
                if isinstance(node, (ast.FunctionDef, ast.Lambda)):
                    told.update(parameters(node))
            told.update(node.name for node in tree.body if isinstance(node, (ast.FunctionDef, ast.ClassDef)))
            self.assertEqual(told & set(dir(builtins)), set(), name)

    def test_no_name_of_an_import_or_class(self):
        for name, tree in TREES.items():
            outer = {each.name for node in tree.body if isinstance(node, ast.ImportFrom) for each in node.names}
            outer.update(node.name for node in tree.body if isinstance(node, ast.ClassDef))
            inner = {node.id for node in ast.walk(tree) if isinstance(node, ast.Name) and isinstance(node.ctx, ast.Store)}
            for node in ast.walk(tree):
                if isinstance(node, (ast.FunctionDef, ast.Lambda)):
                    inner.update(parameters(node))
            self.assertEqual(outer & inner, set(), name)

    def test_calls(self):
        own = own_names()
        for name, node in nodes(ast.Call):
            if isinstance(node.func, ast.Name):
                imported = {each.name for told in TREES[name].body if isinstance(told, ast.ImportFrom) for each in told.names}
                fine = own | BUILTINS | imported | called_locals(TREES[name])
                self.assertIn(node.func.id, fine, (name, node.lineno))
                if node.func.id in BUILTINS:
                    keys = {"sorted": {"key", "reverse"}, "min": {"key", "default"}, "max": {"key", "default"}}
                    self.assertLessEqual({each.arg for each in node.keywords}, keys.get(node.func.id, set()))
                    self.assertFalse(any(isinstance(each, ast.Starred) for each in node.args))
            else:
                self.assertIsInstance(node.func, ast.Attribute)
                self.assertIn(node.func.attr, own | METHODS, (name, node.lineno))

    def test_builtins_are_only_called(self):
        for name, tree in TREES.items():
            fine = [node.func for node in ast.walk(tree) if isinstance(node, ast.Call)]
            for node in ast.walk(tree):
                if isinstance(node, ast.Call) and isinstance(node.func, ast.Name) and node.func.id == "isinstance":
                    fine.extend(ast.walk(node.args[1]))
                if isinstance(node, ast.ClassDef):
                    fine.extend(node.bases)
                if isinstance(node, ast.FunctionDef):
                    fine.extend(node.decorator_list)
                    if node.name in ARITHMETIC:
                        fine.extend([each.value for each in ast.walk(node) if isinstance(each, ast.Return)])
            for node in ast.walk(tree):
                if isinstance(node, ast.Name) and node.id in dir(builtins):
                    self.assertIn(node, fine, (name, node.id, node.lineno))

    def test_is(self):
        for name, node in nodes(ast.Compare):
            for sign, right in zip(node.ops, node.comparators):
                if isinstance(sign, (ast.Is, ast.IsNot)):
                    self.assertIn(ast.unparse(right), ("None", "True", "False"), (name, node.lineno))

    def test_attributes(self):
        assigned = {node.attr for name, node in nodes(ast.Attribute) if isinstance(node.ctx, ast.Store)}
        methods = {each.name for name, node in nodes(ast.ClassDef) for each in node.body if isinstance(each, ast.FunctionDef)}
        self.assertEqual(assigned & methods, set())
        self.assertEqual(assigned & (METHODS | {"sort", "args", "encode", "decode", "hex", "format"}), set())
        for name, node in nodes(ast.Attribute):
            self.assertIn(node.attr, assigned | methods | METHODS | {"__init__", "__class__", "__name__"})

    def test_attributes_are_set_through_a_local_name(self):
        for name, tree in TREES.items():
            outer = {each.name for node in tree.body if isinstance(node, ast.ImportFrom) for each in node.names}
            outer.update(node.name for node in tree.body if isinstance(node, (ast.FunctionDef, ast.ClassDef)))
            outer.update(node.targets[0].id for node in tree.body if isinstance(node, ast.Assign))
            for node in ast.walk(tree):
                if isinstance(node, ast.Attribute) and isinstance(node.ctx, ast.Store):
                    self.assertIsInstance(node.value, ast.Name)
                    self.assertNotIn(node.value.id, outer, (name, node.lineno))

    def test_exponents(self):
        for name, node in nodes(ast.BinOp):
            if isinstance(node.op, ast.Pow):
                self.assertIsInstance(node.right, ast.Constant)
                self.assertTrue(0 <= node.right.value <= 64, (name, node.lineno))


if __name__ == "__main__":
    unittest.main()

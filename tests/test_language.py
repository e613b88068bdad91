"""The rules of the language subset that can be seen in a file, checked over the whole package."""

import ast
import builtins
import os
import re
import unittest

PACKAGE = os.path.join(os.path.dirname(os.path.dirname(os.path.abspath(__file__))), "linkneed")
BUILTINS = {
    "len", "range", "enumerate", "zip", "min", "max", "sum", "abs", "sorted", "reversed", "int", "str", "bool", "list",
    "tuple", "dict", "set", "isinstance", "ord", "repr", "any", "all", "divmod", "ValueError", "TypeError", "KeyError",
    "IndexError", "LookupError", "NotImplemented", "property", "staticmethod", "classmethod", "super", "iter", "next", "map",
}
METHODS = {
    "append", "clear", "copy", "count", "endswith", "extend", "find", "get", "index", "insert", "isalnum", "isalpha",
    "isdigit", "islower", "isspace", "isupper", "items", "join", "keys", "ljust", "lower", "lstrip", "partition", "pop",
    "remove", "replace", "reverse", "rfind", "rjust", "rpartition", "rsplit", "rstrip", "setdefault", "split",
    "splitlines", "startswith", "strip", "update", "upper", "values", "zfill", "bit_length",
}
BARRED_NAMES = {
    "register", "mro", "elements", "open", "input", "law", "version_info", "with_traceback", "add_note", "attrgetter",
    "breakpoint", "compile", "copyright", "credits", "exit", "gc", "help", "id", "license", "methodcaller", "os", "quit",
    "sys", "type", "vars",
}
BARRED_WORDS = {
    "type", "typing", "typing_extensions", "enum", "Enum", "IntEnum", "StrEnum", "Flag", "IntFlag", "Generic",
    "Protocol", "ABC", "ABCMeta", "namedtuple", "NamedTuple", "TypedDict", "TYPE_CHECKING", "abstractmethod",
}
DUNDERS = {
    "__init__", "__eq__", "__repr__", "__str__", "__len__", "__call__", "__iter__", "__contains__", "__getitem__",
}
STATEMENTS = (
    ast.Assign, ast.AugAssign, ast.If, ast.While, ast.For, ast.Return, ast.Break, ast.Continue, ast.Pass, ast.Raise,
    ast.Assert, ast.Delete, ast.Nonlocal, ast.Try, ast.Expr, ast.FunctionDef, ast.ClassDef, ast.ImportFrom,
)


def sources():
    for name in sorted(os.listdir(PACKAGE)):
        if name != "__pycache__":
            with open(os.path.join(PACKAGE, name), encoding="utf-8", newline="") as file:
                yield name, file.read()


def trees():
    for name, text in sources():
        yield name, ast.parse(text)


def functions_in(tree):
    return [node for node in ast.walk(tree) if isinstance(node, ast.FunctionDef)]


def bound_in(function):
    names = [arg.arg for arg in function.args.args + function.args.kwonlyargs]
    names += [node.id for node in ast.walk(function) if isinstance(node, ast.Name) and isinstance(node.ctx, ast.Store)]
    return names


def docstrings_of(tree):
    found = set()
    for node in ast.walk(tree):
        if isinstance(node, (ast.Module, ast.ClassDef, ast.FunctionDef)) and ast.get_docstring(node) is not None:
            found.add(id(node.body[0].value))
    return found


class FileTest(unittest.TestCase):
    def test_files(self):
        names = [name for name, _ in sources()]
        self.assertIn("__init__.py", names)
        self.assertLessEqual(len(names), 100)
        for name in names:
            self.assertTrue(re.fullmatch(r"[a-z][a-z0-9_]*\.py|__init__\.py", name), name)

    def test_size_and_characters(self):
        for name, text in sources():
            self.assertTrue(all(letter == "\n" or " " <= letter <= "~" for letter in text), name)
            lines = text.split("\n")
            self.assertLessEqual(len(lines), 399, name)
            for number, line in enumerate(lines, 1):
                self.assertLessEqual(len(line), 120, (name, number))
                self.assertEqual(line, line.rstrip(), (name, number))
        for name, tree in trees():
            for function in functions_in(tree):
                self.assertLessEqual(function.end_lineno - function.lineno + 1, 40, (name, function.name))

    def test_imports(self):
        modules = {name[:-3] for name, _ in sources()}
        uses = {}
        for name, tree in trees():
            defined = []
            uses[name[:-3]] = []
            for node in tree.body:
                self.assertIsInstance(node, (ast.ImportFrom, ast.FunctionDef, ast.ClassDef, ast.Assign, ast.Expr), name)
                if isinstance(node, ast.ImportFrom):
                    self.assertEqual(node.level, 0)
                    package, _, module = node.module.partition(".")
                    self.assertTrue(package == "linkneed" and module in modules, (name, node.module))
                    self.assertTrue(all(alias.asname is None for alias in node.names))
                    uses[name[:-3]].append(module)
                    defined += [alias.name for alias in node.names]
                elif isinstance(node, (ast.FunctionDef, ast.ClassDef)):
                    defined.append(node.name)
                elif isinstance(node, ast.Assign):
                    defined.append(node.targets[0].id)
            self.assertEqual(len(defined), len(set(defined)), name)
        for module in modules:
            self.assertNotIn(module, self.all_uses(uses, module), "imports in a ring")

    def all_uses(self, uses, module):
        met = set()
        pending = list(uses[module])
        while pending:
            one = pending.pop()
            if one not in met:
                met.add(one)
                pending += uses[one]
        return met

    def test_imported_names_are_used_and_defined_there(self):
        tops = {}
        for name, tree in trees():
            tops[name[:-3]] = {node.name for node in tree.body if isinstance(node, (ast.FunctionDef, ast.ClassDef))} | {
                node.targets[0].id for node in tree.body if isinstance(node, ast.Assign)}
        for name, tree in trees():
            used = {node.id for node in ast.walk(tree) if isinstance(node, ast.Name)}
            for node in tree.body:
                if isinstance(node, ast.ImportFrom):
                    for alias in node.names:
                        self.assertIn(alias.name, used, name)
                        self.assertIn(alias.name, tops[node.module.partition(".")[2]], name)


class CodeTest(unittest.TestCase):
    def test_statements_and_expressions(self):
        # Some of these the subset allows in places; the package does without them.
        barred = (ast.GeneratorExp, ast.Await, ast.AnnAssign, ast.Global, ast.Div, ast.MatMult, ast.AsyncFunctionDef,
                  ast.Match, ast.With, ast.SetComp)
        for name, tree in trees():
            for node in ast.walk(tree):
                self.assertNotIsInstance(node, barred, (name, getattr(node, "lineno", 0)))
                if isinstance(node, ast.stmt):
                    self.assertIsInstance(node, STATEMENTS, (name, node.lineno))
                if isinstance(node, ast.Compare) and any(isinstance(op, (ast.Is, ast.IsNot)) for op in node.ops):
                    self.assertTrue(all(isinstance(one, ast.Constant) and one.value in (None, True, False)
                                        for one in node.comparators), (name, node.lineno))
                if isinstance(node, ast.Constant):
                    self.assertNotIsInstance(node.value, (float, complex, bytes), (name, node.lineno))
                if isinstance(node, (ast.FunctionDef, ast.ClassDef)):
                    self.assertTrue(all(isinstance(one, ast.Name) and one.id in ("property", "staticmethod")
                                        or isinstance(node, ast.FunctionDef) and isinstance(one, ast.Name)
                                        and one.id == "classmethod" for one in node.decorator_list), (name, node.name))

    def test_strings(self):
        for name, tree in trees():
            passed_over = docstrings_of(tree)
            for node in ast.walk(tree):
                if isinstance(node, ast.Constant) and isinstance(node.value, str):
                    self.assertNotIn("%", node.value, (name, node.lineno))
                    if id(node) not in passed_over:
                        self.assertFalse(set(re.findall(r"\w+", node.value)) & BARRED_WORDS, (name, node.lineno))

    def test_names(self):
        for name, tree in trees():
            own = {node.name for node in tree.body if isinstance(node, (ast.FunctionDef, ast.ClassDef))}
            imported = {alias.name for node in tree.body if isinstance(node, ast.ImportFrom) for alias in node.names}
            classes = {node.name for node in tree.body if isinstance(node, ast.ClassDef)}
            for node in ast.walk(tree):
                if isinstance(node, ast.Name):
                    self.assertNotIn(node.id, BARRED_NAMES, (name, node.lineno))
                    if hasattr(builtins, node.id):
                        self.assertIsInstance(node.ctx, ast.Load, (name, node.lineno))
                        self.assertIn(node.id, BUILTINS, (name, node.lineno))
            for function in functions_in(tree):
                if function.name.startswith("__"):
                    self.assertIn(function.name, DUNDERS)
                self.assertNotIn(function.name, BARRED_NAMES)
                for one in bound_in(function):
                    self.assertFalse(one in imported or one in classes or one in own, (name, function.name, one))
                    self.assertFalse(hasattr(builtins, one) or one in BARRED_NAMES, (name, function.name, one))

    def test_methods(self):
        for name, tree in trees():
            own = {function.name for _, one in trees() for function in functions_in(one)}
            for node in ast.walk(tree):
                if isinstance(node, ast.Call) and isinstance(node.func, ast.Attribute):
                    self.assertTrue(node.func.attr in METHODS or node.func.attr in own, (name, node.lineno))
                    self.assertNotEqual(node.func.attr, "sort", (name, node.lineno))
                if isinstance(node, ast.Attribute):
                    self.assertNotIn(node.attr, ("register", "mro", "elements", "open", "input", "law", "args"))

    def test_names_of_class_parts(self):
        plain, decorated, attributes = set(), set(), set()
        for name, tree in trees():
            for node in tree.body:
                if isinstance(node, ast.ClassDef):
                    here = set()
                    for function in functions_in(node):
                        marks = [mark.id for mark in function.decorator_list]
                        (decorated if marks else plain).add(function.name)
                        here.add(function.name)
                    own = {one.attr for one in ast.walk(node) if isinstance(one, ast.Attribute) and isinstance(one.ctx, ast.Store)}
                    self.assertFalse(here & own, (name, node.name))
                    attributes |= own
        self.assertFalse(decorated & (plain | attributes))
        self.assertFalse(decorated & METHODS)
        self.assertFalse(attributes & {"items", "keys", "values", "pop", "update", "append", "clear", "extend", "insert", "remove",
                                       "reverse", "setdefault", "sort", "args", "encode", "decode", "hex", "format"})

    def test_classes_with_items_are_iterated_over(self):
        for name, tree in trees():
            for node in ast.walk(tree):
                if isinstance(node, ast.ClassDef):
                    methods = {function.name: function for function in functions_in(node)}
                    if "__getitem__" in methods:
                        self.assertIn("__iter__", methods)
                    for function in methods.values():
                        if function.name == "__iter__":
                            self.assertRegex(ast.unparse(function.body[-1]), r"^return iter\(self\.\w+\)$")
                            self.assertEqual(len(function.body), 1)
        for name, text in sources():
            for word in ("(type)", "Meta", "metaclass="):
                self.assertNotIn(word, text, name)

    def test_what_stands_behind_stars(self):
        for name, tree in trees():
            for node in ast.walk(tree):
                if isinstance(node, ast.Call):
                    stars = [at for at, one in enumerate(node.args) if isinstance(one, ast.Starred)]
                    for one in node.args[stars[0]:] if stars else []:
                        one = one.value if isinstance(one, ast.Starred) else one
                        self.assertIsInstance(one, (ast.Name, ast.Attribute, ast.Constant), (name, node.lineno))

    def test_names_of_caught_errors(self):
        for name, tree in trees():
            for function in functions_in(tree):
                caught = [node.name for node in ast.walk(function) if isinstance(node, ast.ExceptHandler) and node.name]
                self.assertEqual(len(caught), len(set(caught)), (name, function.name))
                self.assertFalse(set(caught) & set(bound_in(function)), (name, function.name))

    def test_operators_and_properties_change_no_object(self):
        read_only = {"__eq__", "__len__", "__str__", "__contains__", "__getitem__", "__iter__"}
        for name, tree in trees():
            for function in functions_in(tree):
                if function.name in read_only or any(mark.id == "property" for mark in function.decorator_list):
                    for node in ast.walk(function):
                        if isinstance(node, (ast.Attribute, ast.Subscript)):
                            self.assertNotIsInstance(node.ctx, (ast.Store, ast.Del), (name, function.name))

    def test_sets_are_kept_in_their_places(self):
        for name, tree in trees():
            for node in ast.walk(tree):
                if isinstance(node, ast.Set):
                    self.fail((name, node.lineno))
                if isinstance(node, ast.Call) and isinstance(node.func, ast.Name) and node.func.id == "set":
                    self.fail((name, node.lineno))

    def test_loops_do_not_change_what_they_go_over(self):
        changing = {"append", "extend", "insert", "pop", "remove", "clear", "setdefault", "update", "reverse"}
        for name, tree in trees():
            for loop in ast.walk(tree):
                if isinstance(loop, ast.For):
                    over = ast.unparse(loop.iter)
                    for node in ast.walk(loop):
                        if isinstance(node, ast.Call) and isinstance(node.func, ast.Attribute):
                            if node.func.attr in changing:
                                self.assertNotEqual(ast.unparse(node.func.value), over, (name, node.lineno))

    def test_public_functions_have_docstrings(self):
        for name, tree in trees():
            self.assertIsNotNone(ast.get_docstring(tree), name)
            for node in tree.body:
                if isinstance(node, (ast.FunctionDef, ast.ClassDef)) and not node.name.startswith("_"):
                    self.assertIsNotNone(ast.get_docstring(node), (name, node.name))


if __name__ == "__main__":
    unittest.main()

"""The files of the package keep to the subset of the language, as far as a simple look can tell."""

import ast
import builtins
import os
import unittest

HERE = os.path.dirname(os.path.dirname(os.path.abspath(__file__)))
PACKAGE = os.path.join(HERE, "stylobate")

BUILTINS = {
    "len", "range", "enumerate", "zip", "min", "max", "sum", "abs", "sorted", "reversed", "int", "str", "bool",
    "list", "tuple", "dict", "set", "isinstance", "ord", "repr", "any", "all", "divmod", "ValueError", "super",
    "property", "iter",
}
METHODS = set(
    "append clear copy count endswith extend find get index insert isalnum isalpha isdigit islower isspace isupper "
    "items join keys ljust lower lstrip partition pop remove replace reverse rfind rjust rpartition rsplit rstrip "
    "setdefault split splitlines startswith strip update upper values zfill bit_length isascii".split())
BARRED_NAMES = {"register", "mro", "elements", "open", "input", "law", "version_info", "os", "gc", "id", "dir", "type",
                "vars", "eval", "exec", "exit", "quit", "help", "locals", "globals", "compile", "license"}
BARRED_WORDS = {"type", "typing", "enum", "Enum", "Flag", "Generic", "Protocol", "ABC", "namedtuple", "NamedTuple",
                "dataclass", "overload", "contextmanager", "abstractmethod"}
BARRED_ATTRIBUTES = {"items", "keys", "values", "pop", "update", "append", "clear", "extend", "insert", "remove", "reverse",
                     "setdefault", "sort", "args", "encode", "decode", "hex", "fromhex", "format"}
BARRED_NODES = (ast.Global, ast.AsyncFunctionDef, ast.Await, ast.Yield, ast.YieldFrom, ast.GeneratorExp, ast.Set,
                ast.SetComp, ast.Starred, ast.Div, ast.AnnAssign, ast.Import)


def files():
    found = []
    for folder, folders, names in os.walk(PACKAGE):
        folders[:] = [name for name in folders if name != "__pycache__"]
        found.extend(os.path.join(folder, name) for name in names)
    return sorted(found)


def module_name(path):
    name = os.path.relpath(path, HERE)[:-3].replace(os.sep, ".")
    return name[:-len(".__init__")] if name.endswith(".__init__") else name


def read(path):
    with open(path, encoding="utf-8", newline="") as held:
        return held.read()


TREES = {path: ast.parse(read(path)) for path in files()}


def bound_names(tree):
    """Return the names that functions bind: parameters, variables and nested functions."""
    for node in ast.walk(tree):
        if isinstance(node, ast.arg):
            yield node.arg, node
        elif isinstance(node, ast.Name) and not isinstance(node.ctx, ast.Load):
            yield node.id, node
        elif isinstance(node, ast.ExceptHandler) and node.name:
            yield node.name, node


class Files(unittest.TestCase):
    def test_files_and_characters(self):
        paths = files()
        self.assertLessEqual(len(paths), 100)
        for path in paths:
            self.assertTrue(path.endswith(".py"), path)
            name = os.path.basename(path)[:-3]
            self.assertEqual(name, name.lower())
            self.assertNotIn(name, dir(builtins))
            text = read(path)
            lines = text.split("\n")
            self.assertLessEqual(len(lines) - 1, 399, path)
            self.assertLessEqual(max(len(line) for line in lines), 120, path)
            self.assertEqual({sign for sign in text if not (" " <= sign <= "~" or sign == "\n")}, set(), path)

    def test_size_of_functions(self):
        for path, tree in TREES.items():
            for node in ast.walk(tree):
                if isinstance(node, ast.FunctionDef):
                    self.assertLessEqual(node.end_lineno - node.lineno + 1, 40, (path, node.name))
                    self.assertEqual([d for d in node.decorator_list if getattr(d, "id", "") != "property"], [])

    def test_each_folder_has_an_init(self):
        for folder, folders, names in os.walk(PACKAGE):
            if "__pycache__" not in folder:
                self.assertIn("__init__.py", names)


class Imports(unittest.TestCase):
    def imports_of(self, tree):
        return [node for node in ast.walk(tree) if isinstance(node, (ast.ImportFrom, ast.Import))]

    def test_from_the_defining_file(self):
        defined = {}
        for path, tree in TREES.items():
            names = set()
            for node in tree.body:
                if isinstance(node, (ast.FunctionDef, ast.ClassDef)):
                    names.add(node.name)
                elif isinstance(node, ast.Assign):
                    names.add(node.targets[0].id)
            defined[module_name(path)] = names
        for path, tree in TREES.items():
            for node in self.imports_of(tree):
                self.assertIsInstance(node, ast.ImportFrom, path)
                self.assertEqual(node.level, 0)
                self.assertIn(node.module, defined, path)
                for alias in node.names:
                    self.assertIn(alias.name, defined[node.module], path)
                    self.assertIsNone(alias.asname)

    def test_every_import_is_used(self):
        for path, tree in TREES.items():
            used = {node.id for node in ast.walk(tree) if isinstance(node, ast.Name)}
            for node in self.imports_of(tree):
                for alias in node.names:
                    self.assertIn(alias.name, used, path)

    def test_no_circles(self):
        needs = {}
        for path, tree in TREES.items():
            needs[module_name(path)] = {node.module for node in self.imports_of(tree)}
        done = set()
        while len(done) < len(needs):
            ready = {name for name in needs if name not in done and needs[name] <= done}
            self.assertTrue(ready, sorted(set(needs) - done))
            done |= ready


class Names(unittest.TestCase):
    def test_bound_once_and_no_builtins(self):
        for path, tree in TREES.items():
            taken = []
            for node in tree.body:
                if isinstance(node, (ast.FunctionDef, ast.ClassDef)):
                    taken.append(node.name)
                elif isinstance(node, ast.Assign):
                    taken.extend(target.id for target in node.targets)
                elif isinstance(node, ast.ImportFrom):
                    taken.extend(alias.name for alias in node.names)
            self.assertEqual(len(taken), len(set(taken)), path)
            self.assertEqual([name for name in taken if name in dir(builtins)], [], path)

    def test_variables(self):
        for path, tree in TREES.items():
            imported = {alias.name for node in tree.body if isinstance(node, ast.ImportFrom) for alias in node.names}
            barred = imported | {node.name for node in tree.body if isinstance(node, (ast.ClassDef, ast.FunctionDef))}
            for name, node in bound_names(tree):
                self.assertNotIn(name, barred, (path, node.lineno))
                self.assertNotIn(name, dir(builtins), (path, node.lineno))
                self.assertNotIn(name, BARRED_NAMES, (path, node.lineno))

    def test_classes_and_attributes(self):
        methods = {}
        attributes = {}
        for path, tree in TREES.items():
            for node in ast.walk(tree):
                if isinstance(node, ast.ClassDef):
                    self.assertRegex(node.name, "^[A-Z]")
                    names = [part.name for part in node.body if isinstance(part, ast.FunctionDef)]
                    self.assertEqual(len(names), len(set(names)))
                    for name in names:
                        methods.setdefault(name, []).append(node.name)
                if isinstance(node, ast.Attribute) and isinstance(node.ctx, ast.Store):
                    attributes.setdefault(node.attr, []).append(path)
        self.assertEqual(sorted(set(attributes) & BARRED_ATTRIBUTES), [])
        # These count as modifications of what a loop goes over, as those of lists do.
        self.assertEqual(sorted(name for name in methods if name in METHODS), ["insert", "remove", "update"])
        # The interface has this name as a method of the engine, and as a field of queries and answers.
        self.assertEqual(sorted(set(methods) & set(attributes)), ["names"])
        self.assertEqual(methods["names"], ["Engine"])

    def test_double_underscore_methods(self):
        for path, tree in TREES.items():
            for node in ast.walk(tree):
                if isinstance(node, ast.FunctionDef) and node.name == "__init__":
                    inner = [part for part in ast.walk(node) if isinstance(part, (ast.Return, ast.FunctionDef))]
                    self.assertEqual(inner, [node], path)
                if isinstance(node, ast.FunctionDef) and node.name in ("__iter__", "__len__"):
                    self.assertEqual(len(node.body), 1)
                    self.assertRegex(ast.unparse(node.body[0]), r"^return (iter|len)\(self\.rows\)$")


class Statements(unittest.TestCase):
    def test_barred_nodes(self):
        for path, tree in TREES.items():
            for node in ast.walk(tree):
                self.assertNotIsInstance(node, BARRED_NODES, (path, getattr(node, "lineno", 0)))

    def test_builtins(self):
        for path, tree in TREES.items():
            for node in ast.walk(tree):
                if isinstance(node, ast.Name) and node.id in dir(builtins):
                    self.assertIn(node.id, BUILTINS, (path, node.lineno))

    def test_is_stands_beside_plain_values(self):
        for path, tree in TREES.items():
            for node in ast.walk(tree):
                if isinstance(node, ast.Compare) and isinstance(node.ops[0], (ast.Is, ast.IsNot)):
                    right = node.comparators[0]
                    self.assertIsInstance(right, ast.Constant, (path, node.lineno))
                    self.assertIn(right.value, (None, True, False))

    def test_strings(self):
        for path, tree in TREES.items():
            for node in ast.walk(tree):
                if isinstance(node, ast.Constant) and isinstance(node.value, str):
                    self.assertNotIn("%", node.value, path)
                    self.assertFalse(node.value.endswith(("._", ".__")), path)

    def test_words(self):
        for path, tree in TREES.items():
            words = set()
            for node in ast.walk(tree):
                for field in ("id", "attr", "name", "arg"):
                    words.add(getattr(node, field, None))
            self.assertEqual(sorted(words & BARRED_WORDS - {None}), [], path)

    def test_module_level(self):
        for path, tree in TREES.items():
            for node in tree.body:
                plain = isinstance(node, (ast.FunctionDef, ast.ClassDef, ast.ImportFrom, ast.Assign))
                docstring = isinstance(node, ast.Expr) and isinstance(node.value, ast.Constant)
                self.assertTrue(plain or docstring, (path, node.lineno))
                if isinstance(node, ast.Assign):
                    self.check_table(path, node.value)

    def check_table(self, path, value):
        """A table holds plain values, tuples, and functions of the same file."""
        functions = {node.name for node in TREES[path].body if isinstance(node, ast.FunctionDef)}
        for node in ast.walk(value):
            self.assertNotIsInstance(node, (ast.Call, ast.BinOp), (path, value.lineno))
            if isinstance(node, ast.Name):
                self.assertIn(node.id, functions, (path, node.lineno))
            if node is not value:
                self.assertNotIsInstance(node, (ast.List, ast.Dict), (path, value.lineno))

    def test_tables_are_read_only_by_index_and_iteration(self):
        for path, tree in TREES.items():
            tables = {node.targets[0].id for node in tree.body
                      if isinstance(node, ast.Assign) and isinstance(node.value, (ast.List, ast.Dict))}
            allowed = set()
            for node in ast.walk(tree):
                if isinstance(node, ast.Subscript):
                    allowed.add(id(node.value))
                elif isinstance(node, ast.Compare):
                    allowed.update(id(part) for part in node.comparators)
                elif isinstance(node, ast.Attribute) and node.attr == "get":
                    allowed.add(id(node.value))
            for node in ast.walk(tree):
                if isinstance(node, ast.Name) and isinstance(node.ctx, ast.Load) and node.id in tables:
                    self.assertIn(id(node), allowed, (path, node.lineno))

    def test_errors_are_made_on_the_spot(self):
        for path, tree in TREES.items():
            for node in ast.walk(tree):
                if isinstance(node, ast.Raise) and node.exc is not None:
                    self.assertIsInstance(node.exc, ast.Call, (path, node.lineno))
                if isinstance(node, ast.ExceptHandler):
                    self.assertIsInstance(node.type, ast.Name, (path, node.lineno))
                    self.assertNotIn(node.type.id, dir(builtins), (path, node.lineno))


if __name__ == "__main__":
    unittest.main()

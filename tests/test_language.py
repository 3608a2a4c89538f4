"""The rules of ../shared/LANGUAGE.md that a look at each file can check."""

import ast
import builtins
import os
import re
import unittest

PACKAGE = "meridian"
TOP = os.path.dirname(os.path.dirname(os.path.abspath(__file__)))

BUILTINS = set("""len range enumerate zip min max sum abs sorted reversed int str bool list tuple dict set
    isinstance ord repr any all divmod iter next map property staticmethod classmethod super
    Exception ValueError TypeError KeyError IndexError LookupError ZeroDivisionError NotImplemented""".split())
LIBRARY = {"heapq", "math", "itertools", "collections", "__future__"}
METHODS = set("""append clear copy count endswith extend find get index insert isalnum isalpha isdigit islower
    isspace isupper items join keys ljust lower lstrip partition pop remove replace reverse rfind rjust
    rpartition rsplit rstrip setdefault split splitlines startswith strip update upper values zfill
    bit_length add discard""".split())
SPECIAL = set("""__init__ __eq__ __repr__ __str__ __len__ __iter__ __contains__ __bool__ __lt__ __le__
    __gt__ __ge__""".split())
BARRED = set("register mro elements open input law version_info with_traceback add_note".split())
BARRED_WORDS = set("type typing enum Enum Flag Generic Protocol ABC namedtuple dataclass overload".split())
BARRED_STARTS = ("_wall", "_pe_", "_dcw_", "_enum_", "_cm_", "_twin_re_", "_lay_", "_law_", "_stub_", "_sre",
                 "_cold", "_tuplegetter", "_outside", "_record", "_written_out", "_member_names")
STATEMENTS = (ast.Global, ast.AsyncFunctionDef, ast.AsyncFor, ast.AsyncWith, ast.Await)
OPERATORS = (ast.Div, ast.MatMult)


def package_files():
    found = []
    for folder, folders, files in os.walk(os.path.join(TOP, PACKAGE)):
        folders[:] = sorted(name for name in folders if name != "__pycache__")
        found.extend(os.path.relpath(os.path.join(folder, name), TOP) for name in sorted(files))
    return found


def source_of(path):
    with open(os.path.join(TOP, path), encoding="utf-8") as file:
        return file.read()


def module_of(path):
    parts = path[:-len(".py")].split(os.sep)
    return ".".join(parts[:-1] if parts[-1] == "__init__" else parts)


TREES = {path: ast.parse(source_of(path)) for path in package_files()}


def nodes(kind):
    """Return the pairs (path, node) of all nodes of a kind in the package."""
    return [(path, node) for path, tree in TREES.items() for node in ast.walk(tree) if isinstance(node, kind)]


def docstrings(tree):
    found = []
    for node in ast.walk(tree):
        if isinstance(node, (ast.Module, ast.ClassDef, ast.FunctionDef)) and ast.get_docstring(node) is not None:
            found.append(id(node.body[0].value))
    return found


def bound_names():
    """Return the pairs (path, name) of all names that the package gives to something."""
    found = []
    for path, node in nodes((ast.Name, ast.arg, ast.FunctionDef, ast.ClassDef, ast.Attribute)):
        if isinstance(node, ast.Name) and not isinstance(node.ctx, ast.Load):
            found.append((path, node.id))
        elif isinstance(node, ast.arg):
            found.append((path, node.arg))
        elif isinstance(node, (ast.FunctionDef, ast.ClassDef)):
            found.append((path, node.name))
        elif isinstance(node, ast.Attribute):
            found.append((path, node.attr))
    return found


class LanguageTest(unittest.TestCase):

    def test_files(self):
        self.assertTrue(TREES)
        folders = {os.path.dirname(path) for path in TREES}
        for path in TREES:
            self.assertRegex(os.path.basename(path), r"^[a-z0-9_]+\.py$")
            self.assertIn(os.path.join(os.path.dirname(path), "__init__.py"), TREES)
            self.assertNotIn(path[:-len(".py")], folders)

    def test_size_and_characters(self):
        for path in TREES:
            lines = source_of(path).split("\n")
            self.assertLessEqual(len(lines) - 1, 399, path)
            for number, line in enumerate(lines, start=1):
                self.assertLessEqual(len(line), 120, (path, number))
                self.assertTrue(all(" " <= character <= "~" for character in line), (path, number))
        for path, node in nodes(ast.FunctionDef):
            self.assertLessEqual(node.end_lineno - node.lineno + 1, 40, (path, node.name))

    def test_imports(self):
        self.assertEqual(nodes(ast.Import), [])
        modules = {module_of(path) for path in TREES}
        for path, node in nodes(ast.ImportFrom):
            self.assertEqual(node.level, 0, path)
            if node.module in LIBRARY:
                continue
            self.assertIn(node.module, modules, path)
            self.assertTrue(all(alias.asname is None for alias in node.names), path)
            target = node.module.replace(".", os.sep) + ".py"
            defined = set()
            for item in TREES[target].body:
                if isinstance(item, (ast.FunctionDef, ast.ClassDef)):
                    defined.add(item.name)
                elif isinstance(item, ast.Assign):
                    defined.add(item.targets[0].id)
            for alias in node.names:
                self.assertIn(alias.name, defined, path)

    def test_no_two_files_import_from_each_other(self):
        wanted = {module_of(path): set() for path in TREES}
        for path, node in nodes(ast.ImportFrom):
            if node.module not in LIBRARY:
                wanted[module_of(path)].add(node.module)
        while wanted:
            free = [name for name, others in wanted.items() if not others & set(wanted)]
            self.assertTrue(free, wanted)
            for name in free:
                del wanted[name]

    def test_module_level(self):
        for path, tree in TREES.items():
            for number, item in enumerate(tree.body):
                if number == 0 and isinstance(item, ast.Expr):
                    self.assertIsInstance(item.value.value, str, path)
                    continue
                self.assertIsInstance(item, (ast.ImportFrom, ast.FunctionDef, ast.ClassDef, ast.Assign), path)

    def test_builtins(self):
        defined = {(path, node.name) for path, node in nodes((ast.FunctionDef, ast.ClassDef))}
        for path, node in nodes(ast.Name):
            if isinstance(node.ctx, ast.Load) and node.id in dir(builtins) and (path, node.id) not in defined:
                self.assertIn(node.id, BUILTINS, (path, node.lineno))

    def test_names(self):
        for path, name in bound_names():
            self.assertNotIn(name, BARRED, path)
            self.assertFalse(name.startswith(BARRED_STARTS), (path, name))
            if name.startswith("__"):
                self.assertIn(name, SPECIAL, path)
        methods = {item.name for _, node in nodes(ast.ClassDef) for item in node.body
                   if isinstance(item, ast.FunctionDef)}
        for path, node in nodes((ast.Name, ast.arg, ast.FunctionDef, ast.ClassDef)):
            if isinstance(node, ast.Name) and isinstance(node.ctx, ast.Load):
                continue
            name = getattr(node, "id", None) or getattr(node, "arg", None) or node.name
            if name not in methods:
                self.assertNotIn(name, dir(builtins), path)

    def test_no_local_name_hides_an_import_or_a_class(self):
        for path, tree in TREES.items():
            taken = {item.name for item in tree.body if isinstance(item, ast.ClassDef)}
            for item in tree.body:
                if isinstance(item, ast.ImportFrom):
                    taken |= {alias.name for alias in item.names}
            for node in ast.walk(tree):
                if isinstance(node, ast.arg):
                    self.assertNotIn(node.arg, taken, path)
                elif isinstance(node, ast.Name) and not isinstance(node.ctx, ast.Load):
                    self.assertNotIn(node.id, taken, path)

    def test_methods(self):
        own = {node.name for _, node in nodes(ast.FunctionDef)}
        for path, node in nodes(ast.Call):
            if isinstance(node.func, ast.Attribute):
                self.assertIn(node.func.attr, METHODS | own, (path, node.lineno))

    def test_statements_and_operators(self):
        for path, tree in TREES.items():
            said = docstrings(tree)
            for node in ast.walk(tree):
                self.assertNotIsInstance(node, STATEMENTS + OPERATORS, path)
                if isinstance(node, ast.ExceptHandler):
                    self.assertIsInstance(node.type, (ast.Name, ast.Tuple), path)
                if isinstance(node, ast.Constant):
                    self.assertNotIsInstance(node.value, float, path)
                    if isinstance(node.value, str):
                        self.check_string(path, node.value, id(node) in said)
        for path, name in bound_names():
            self.assertNotIn(name, BARRED_WORDS, path)

    def check_string(self, path, text, is_docstring):
        self.assertNotIn(chr(37), text, path)
        if not is_docstring:
            self.assertEqual(BARRED_WORDS & set(re.findall(r"\w+", text)), set(), path)

    def test_properties_are_neither_methods_nor_attributes(self):
        properties = set()
        methods = set()
        for _, node in nodes(ast.ClassDef):
            for item in node.body:
                if isinstance(item, ast.FunctionDef):
                    words = [word.id for word in item.decorator_list if isinstance(word, ast.Name)]
                    (properties if "property" in words else methods).add(item.name)
        stored = {node.attr for _, node in nodes(ast.Attribute) if not isinstance(node.ctx, ast.Load)}
        self.assertEqual(properties & methods, set())
        self.assertEqual(properties & stored, set())


if __name__ == "__main__":
    unittest.main()

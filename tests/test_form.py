"""The form of the package's files, as far as a short test can see it."""

import ast
import builtins
import pathlib
import unittest

TOP = pathlib.Path(__file__).resolve().parent.parent
PACKAGE = TOP / "shownpart"
BUILTINS = set(
    "len range enumerate zip min max sum abs sorted reversed int str bool bytes list tuple dict set frozenset"
    " isinstance ord repr any all divmod pow getattr hasattr setattr iter next map"
    " super property staticmethod classmethod type"
    " Exception ValueError TypeError KeyError IndexError LookupError ZeroDivisionError ArithmeticError OverflowError"
    " RuntimeError NotImplementedError AttributeError StopIteration NotImplemented".split()
)
LIBRARY = {
    "heapq": "heappush heappop heapify heapreplace heappushpop", "math": "gcd lcm isqrt comb perm factorial",
    "itertools": "product combinations permutations chain accumulate pairwise islice zip_longest",
    "collections": "defaultdict deque", "__future__": "annotations",
}
BARRED = ("register", "mro", "elements", "open", "input", "law", "version_info", "with_traceback", "add_note")
STATEMENTS = (ast.Global, ast.AsyncFunctionDef, ast.AsyncFor, ast.AsyncWith, ast.Await, ast.Import)
LANDED = {
    "errors.py", "base/terms.py", "base/facts.py", "base/worlds.py", "books/books.py", "closing/closing.py",
    "closing/follows.py", "growths/growths.py", "shown/cases.py", "shown/shown.py", "shown/fitting.py",
    "shown/middle.py", "shown/exchange.py", "shown/settled.py", "code/pieces.py", "board/board.py", "text/formats.py",
    "text/shell.py",
}


def files():
    return sorted(PACKAGE.rglob("*.py"))


def trees():
    return [(path, ast.parse(path.read_text(encoding="ascii"))) for path in files()]


def nodes(kind):
    return [(path, node) for path, tree in trees() for node in ast.walk(tree) if isinstance(node, kind)]


def bound(tree):
    """All names that a file binds anywhere."""
    found = set()
    for node in ast.walk(tree):
        if isinstance(node, (ast.FunctionDef, ast.ClassDef)):
            found.add(node.name)
        elif isinstance(node, ast.arg):
            found.add(node.arg)
        elif isinstance(node, ast.Name) and not isinstance(node.ctx, ast.Load):
            found.add(node.id)
        elif isinstance(node, ast.alias):
            found.add(node.asname or node.name)
        elif isinstance(node, ast.ExceptHandler) and node.name:
            found.add(node.name)
    return found


def imports(path):
    """The files that a file imports, with the `__init__.py` above them."""
    found = set()
    for node in ast.parse(path.read_text(encoding="ascii")).body:
        if isinstance(node, ast.ImportFrom) and node.module.split(".")[0] == PACKAGE.name:
            source = TOP / (node.module.replace(".", "/") + ".py")
            found.add(source)
            found.update(above / "__init__.py" for above in source.parents if PACKAGE in (above, *above.parents))
    return found


def class_parts(some=None):
    """The names of plain methods, static and class methods, properties, attributes and class values.

    Each name is told with the classes that have it.
    """
    methods, off_class, properties, attributes, values = {}, {}, {}, {}, {}
    for tree in [tree for _, tree in trees()] if some is None else some:
        for node in [node for node in ast.walk(tree) if isinstance(node, ast.ClassDef)]:
            for part in node.body:
                if isinstance(part, ast.FunctionDef):
                    told = [ast.unparse(decorator) for decorator in part.decorator_list]
                    kind = methods
                    if "property" in told or f"{part.name}.setter" in told:
                        kind = properties
                    elif "classmethod" in told or "staticmethod" in told:
                        kind = off_class
                    kind.setdefault(part.name, set()).add(node.name)
                elif isinstance(part, ast.Assign):
                    for target in part.targets:
                        values.setdefault(target.id, set()).add(node.name)
        # An attribute can be assigned outside of its class, too.
        for part in ast.walk(tree):
            if isinstance(part, ast.Attribute) and isinstance(part.ctx, ast.Store):
                attributes.setdefault(part.attr, set()).add(ast.unparse(part.value))
    return methods, off_class, properties, attributes, values


def names_with_two_meanings(some=None):
    """The names of static and class methods that something else in the package has, too (L5)."""
    methods, off_class, properties, attributes, values = class_parts(some)
    others = {*methods, *properties, *attributes, *values}
    others |= {name for kind in (str, int, bytes, list, dict, set, tuple) for name in dir(kind)}
    return set(off_class) & others


def defined(path):
    """The names that a file defines at its module level."""
    found = set()
    for node in ast.parse(path.read_text(encoding="ascii")).body:
        if isinstance(node, (ast.FunctionDef, ast.ClassDef)):
            found.add(node.name)
        elif isinstance(node, ast.Assign):
            found.update(target.id for target in node.targets)
    return found


class TestForm(unittest.TestCase):
    def test_files(self):
        self.assertTrue(LANDED <= {path.relative_to(PACKAGE).as_posix() for path in files()})
        for path in PACKAGE.rglob("*"):
            if "__pycache__" not in path.parts:
                self.assertTrue(path.is_dir() or path.suffix == ".py", path)
        for path in files():
            self.assertTrue((path.parent / "__init__.py").exists(), path)
            self.assertEqual(path.name, path.name.lower())

    def test_sizes_and_characters(self):
        for path in files():
            text = path.read_text(encoding="ascii")
            self.assertTrue(all(sign == "\n" or " " <= sign <= "~" for sign in text), path)
            self.assertLessEqual(len(text.splitlines()), 399, path)
            self.assertLessEqual(max(map(len, text.splitlines())), 120, path)
        for path, node in nodes(ast.FunctionDef):
            self.assertLessEqual(node.end_lineno - node.lineno + 1, 40, (path, node.name))

    def test_imports(self):
        for path, node in nodes(ast.ImportFrom):
            self.assertEqual(node.level, 0, path)
            names = [alias.name for alias in node.names]
            if node.module in LIBRARY:
                self.assertTrue(set(names) <= set(LIBRARY[node.module].split()), path)
            else:
                source = TOP / (node.module.replace(".", "/") + ".py")
                self.assertTrue(node.module.startswith("shownpart.") and set(names) <= defined(source), (path, names))

    def test_statements(self):
        self.assertEqual(nodes(STATEMENTS), [])
        self.assertEqual([path for path, node in nodes(ast.Constant) if isinstance(node.value, (float, complex))], [])
        self.assertEqual([path for path, node in nodes(ast.Div)], [])
        # Where a class has __eq__, generator expressions stand almost nowhere.
        self.assertEqual([path for path, node in nodes(ast.GeneratorExp)], [])

    def test_builtins(self):
        for path, tree in trees():
            own = bound(tree)
            for node in ast.walk(tree):
                if isinstance(node, ast.Name) and node.id not in own:
                    self.assertIn(node.id, BUILTINS, (path, node.lineno))
            self.assertEqual((own - {"_"}) & set(dir(builtins)), set(), path)

    def test_names(self):
        for path, tree in trees():
            attributes = {node.attr for node in ast.walk(tree) if isinstance(node, ast.Attribute)}
            self.assertEqual((bound(tree) | attributes) & set(BARRED), set(), path)

    def test_strings(self):
        for path, node in nodes(ast.Constant):
            if isinstance(node.value, str):
                self.assertNotIn("%", node.value, (path, node.lineno))

    def test_no_two_files_import_from_each_other(self):
        for path in files():
            seen, waiting = set(), [path]
            while waiting:
                further = imports(waiting.pop()) - seen
                seen |= further
                waiting.extend(further)
            self.assertNotIn(path, seen)

    def test_names_have_one_meaning(self):
        for path, tree in trees():
            fixed = {alias.name for node in tree.body if isinstance(node, ast.ImportFrom) for alias in node.names}
            fixed |= {node.name for node in tree.body if isinstance(node, ast.ClassDef)}
            used = {node.id for node in ast.walk(tree) if isinstance(node, ast.Name)}
            for node in ast.walk(tree):
                if isinstance(node, ast.FunctionDef):
                    local = {part.arg for part in ast.walk(node) if isinstance(part, ast.arg)}
                    local |= {part.id for part in ast.walk(node)
                              if isinstance(part, ast.Name) and not isinstance(part.ctx, ast.Load)}
                    self.assertEqual(local & fixed, set(), (path, node.name))
            self.assertEqual({name for name in fixed if name[0].islower()} - used, set(), path)
        methods, off_class, properties, attributes, values = class_parts()
        methods.update(off_class)
        # The setter of a property is asked for as an attribute.
        properties = {name: told for name, told in properties.items() if name != "kept"}
        self.assertEqual(set(methods) & set(properties) | set(methods) & set(attributes), set())
        self.assertEqual(set(properties) & set(attributes), set())
        self.assertEqual(set(values) & {*methods, *properties, *attributes}, set())
        builtin = {name for kind in (str, int, bytes, list, dict, set) for name in dir(kind)}
        self.assertEqual({name for name in {*methods, *properties, *attributes} - {"__init__"}
                          if name in builtin and not name.startswith("__")}, set())

    def test_names_of_class_methods_have_one_meaning(self):
        _, off_class, _, _, values = class_parts()
        self.assertTrue({"of", "read"} <= set(off_class) and {"Book", "Closing", "World"} <= off_class["of"])
        self.assertIn("MAX_NODES", values)
        self.assertEqual(names_with_two_meanings(), set())
        made = "class One:\n    @classmethod\n    def read(cls):\n        return cls()\n"
        fixed = made.replace("classmethod", "staticmethod").replace("cls", "")
        others = ("class Two:\n    def read(self):\n        pass\n", "class Two:\n    read = 1\n",
                  "class Two:\n    @property\n    def read(self):\n        return 1\n",
                  "class Two:\n    def __init__(self):\n        self.read = 1\n",
                  "def change(box):\n    box.read = 1\n")
        for first in (made, fixed):
            self.assertEqual(names_with_two_meanings([ast.parse(first)]), set())
            for other in others:
                self.assertEqual(names_with_two_meanings([ast.parse(first), ast.parse(other)]), {"read"})
        self.assertEqual(names_with_two_meanings([ast.parse(made.replace("read", "split"))]), {"split"})

    def test_generators(self):
        names = [node.name for _, node in nodes(ast.FunctionDef)]
        for path, node in nodes(ast.FunctionDef):
            if any(isinstance(part, (ast.Yield, ast.YieldFrom)) for part in ast.walk(node)):
                self.assertEqual(names.count(node.name), 1, (path, node.name))

    def test_decorators(self):
        for path, node in nodes((ast.FunctionDef, ast.ClassDef)):
            told = [ast.unparse(decorator) for decorator in node.decorator_list]
            allowed = ("property", "staticmethod", "classmethod")
            self.assertTrue(all(word in allowed or word.endswith(".setter") for word in told), (path, node.name))

    def test_module_level(self):
        for path, tree in trees():
            for node in tree.body:
                plain = isinstance(node, ast.Expr) and isinstance(node.value, ast.Constant)
                kinds = (ast.ImportFrom, ast.FunctionDef, ast.ClassDef, ast.Assign)
                self.assertTrue(plain or isinstance(node, kinds), (path, node.lineno))


if __name__ == "__main__":
    unittest.main()

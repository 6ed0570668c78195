"""The package keeps to the rules of its language that can be read off its files.

Only what a short look can judge is judged here; each test names its rules.
"""

import ast
import builtins
import pathlib
import re
import unittest
import warnings

FOLDER = pathlib.Path(__file__).resolve().parent.parent / "wardweb"
BUILTINS = set("""len range enumerate zip min max sum abs sorted reversed int str bool bytes list tuple dict set
    frozenset isinstance ord repr any all divmod iter next super property staticmethod classmethod Exception ValueError
    TypeError KeyError IndexError LookupError ZeroDivisionError ArithmeticError OverflowError RuntimeError
    NotImplementedError AttributeError StopIteration NotImplemented""".split())
BARRED_WORDS = set("""type typing typing_extensions enum Enum IntEnum StrEnum Flag IntFlag Generic Protocol ABC ABCMeta
    namedtuple NamedTuple TypedDict TYPE_CHECKING abstractmethod""".split())
BARRED_PARTS = ("dataclass", "overload", "contextmanager")
BARRED_NAMES = set("""register mro elements open input law version_info with_traceback add_note format format_map
    """.split())
METHODS = set("""append clear copy count endswith extend find get index insert isalnum isalpha isdigit islower isspace
    isupper items join keys ljust lower lstrip partition pop remove replace reverse rfind rjust rpartition rsplit
    rstrip setdefault split splitlines startswith strip update upper values zfill bit_length title capitalize swapcase
    casefold center expandtabs removeprefix removesuffix rindex isascii isdecimal isnumeric istitle isidentifier
    isprintable encode decode hex translate maketrans add discard""".split())
DOUBLE = set("""__init__ __eq__ __repr__ __str__ __len__ __enter__ __exit__ __call__ __iter__ __lt__ __le__ __gt__
    __ge__ __ne__ __contains__ __getitem__ __setitem__ __bool__ __slots__ __all__ __version__ __name__""".split())
STATEMENTS = (ast.Assign, ast.AugAssign, ast.AnnAssign, ast.If, ast.While, ast.For, ast.Return, ast.Break, ast.Continue,
              ast.Pass, ast.Raise, ast.Assert, ast.Delete, ast.Nonlocal, ast.Match, ast.With, ast.Try, ast.Expr,
              ast.FunctionDef, ast.ClassDef, ast.ImportFrom)
OVER_LISTS = ("any", "all", "min", "max", "sum", "sorted")
AT_ONCE = ("zip", "enumerate", "reversed", "range", "items", "keys", "values")
TAKING = ("list", "tuple", "dict", "sorted", "sum", "any", "all", "enumerate", "zip", "bytes", "min", "max", "join",
          "len", "reversed")


def files():
    return sorted(FOLDER.glob("*.py"))


def trees():
    return [(path, ast.parse(path.read_text("ascii"))) for path in files()]


def nodes(*kinds):
    return [(path, node) for path, tree in trees() for node in ast.walk(tree) if isinstance(node, kinds)]


def bound_names():
    """Each name that the package gives to something, with its place."""
    for path, node in nodes(ast.Name, ast.arg, ast.FunctionDef, ast.ClassDef, ast.Attribute, ast.keyword):
        if isinstance(node, ast.Name):
            yield path, node.lineno, node.id
        elif isinstance(node, (ast.arg, ast.keyword)):
            yield path, node.lineno, node.arg
        elif isinstance(node, ast.Attribute):
            yield path, node.lineno, node.attr
        else:
            yield path, node.lineno, node.name


class Files(unittest.TestCase):
    def test_the_folder_holds_only_files_of_python(self):  # L1, L14
        found = [path.name for path in FOLDER.iterdir() if path.name != "__pycache__"]
        self.assertIn("__init__.py", found)
        for name in found:
            self.assertRegex(name, r"^[a-z][a-z0-9_]*\.py$|^__init__\.py$|^__main__\.py$")

    def test_sizes(self):  # L10
        for path in files():
            lines = path.read_text("ascii").split("\n")
            self.assertLessEqual(len(lines) - 1, 399, path)
            self.assertLessEqual(max(len(line) for line in lines), 120, path)
        for path, node in nodes(ast.FunctionDef):
            self.assertLessEqual(node.end_lineno - node.lineno + 1, 40, (path, node.name))

    def test_signs(self):  # L14
        for path in files():
            self.assertRegex(path.read_bytes(), rb"\A[ -~\n]*\Z", path)

    def test_barred_words(self):  # L17
        for path in files():
            text = path.read_text("ascii")
            self.assertEqual(BARRED_WORDS & set(re.findall(r"\w+", text)), set(), path)
            for part in BARRED_PARTS:
                self.assertNotIn(part, text, path)

    def test_no_warnings(self):  # L27
        with warnings.catch_warnings():
            warnings.simplefilter("error")
            for path in files():
                compile(path.read_text("ascii"), str(path), "exec")


class Names(unittest.TestCase):
    def test_plain_names(self):  # L8, L12
        for path, line, name in bound_names():
            if name is not None and name not in DOUBLE:
                self.assertRegex(name, r"^[A-Za-z][A-Za-z0-9_]*$", (path, line))
                self.assertNotIn(name, BARRED_NAMES, (path, line))

    def test_only_listed_builtins(self):  # L8, L15
        for path, node in nodes(ast.Name):
            if hasattr(builtins, node.id) and node.id not in DOUBLE:
                self.assertIn(node.id, BUILTINS, (path, node.lineno))
                self.assertIsInstance(node.ctx, ast.Load, (path, node.lineno))

    def test_nothing_own_is_called_as_a_builtin(self):  # L8, L15
        for path, node in nodes(ast.arg):
            self.assertFalse(hasattr(builtins, node.arg), (path, node.lineno))
        for path, node in nodes(ast.FunctionDef, ast.ClassDef):
            self.assertNotIn(node.name, BUILTINS, (path, node.lineno))

    def test_imports(self):  # L2, L16
        for path, node in nodes(ast.ImportFrom):
            if node.module != "__future__":
                self.assertEqual(node.level, 0, (path, node.lineno))
                self.assertRegex(node.module, r"^wardweb\.[a-z_]+$", (path, node.lineno))
                tree = ast.parse((FOLDER / (node.module.partition(".")[2] + ".py")).read_text("ascii"))
                self.assertLessEqual({name.name for name in node.names}, defined(tree), (path, node.lineno))

    def test_no_two_files_import_from_each_other(self):  # L16
        needed = {path.stem: set() for path in files()}
        for path, node in nodes(ast.ImportFrom):
            needed[path.stem].add(node.module.rpartition(".")[2])
        while needed:
            ready = [name for name in needed if not needed[name] & set(needed)]
            self.assertTrue(ready, needed)
            for name in ready:
                del needed[name]

    def test_nothing_inside_is_called_as_an_import_or_a_class(self):  # L15
        for path, tree in trees():
            barred = {node.name for node in tree.body if isinstance(node, ast.ClassDef)}
            for node in tree.body:
                if isinstance(node, ast.ImportFrom):
                    barred.update(name.name for name in node.names)
            for node in ast.walk(tree):
                if isinstance(node, ast.arg):
                    self.assertNotIn(node.arg, barred, (path, node.lineno))
                elif isinstance(node, ast.Name) and isinstance(node.ctx, ast.Store):
                    self.assertNotIn(node.id, barred, (path, node.lineno))

    def test_methods_and_attributes_have_unlike_names(self):  # L18
        methods = {item.name for _, node in nodes(ast.ClassDef) for item in node.body
                   if isinstance(item, ast.FunctionDef) and not item.decorator_list}
        stored = {node.attr for _, node in nodes(ast.Attribute) if isinstance(node.ctx, ast.Store)}
        self.assertEqual(methods & stored, set())
        read = {node.attr for _, node in nodes(ast.Attribute) if isinstance(node.ctx, ast.Load)}
        self.assertLessEqual(read, methods | stored | METHODS | DOUBLE | class_names())


def defined(tree):
    """The names that a file defines itself."""
    found = set()
    for node in tree.body:
        if isinstance(node, (ast.FunctionDef, ast.ClassDef)):
            found.add(node.name)
        elif isinstance(node, ast.Assign):
            found.update(target.id for target in node.targets)
    return found


def class_names():
    """Class values, static and class methods and properties, which are read as attributes, too."""
    found = set()
    for _, node in nodes(ast.ClassDef):
        for item in node.body:
            if isinstance(item, ast.Assign):
                found.update(target.id for target in item.targets)
            elif isinstance(item, ast.FunctionDef) and item.decorator_list:
                found.add(item.name)
    return found


def called(node):
    """The name by which a call calls, or None."""
    if not isinstance(node, ast.Call):
        return None
    return node.func.id if isinstance(node.func, ast.Name) else node.func.attr


class Rows(unittest.TestCase):
    def test_iterated_at_once(self):  # L23
        for path, tree in trees():
            for holder in ast.walk(tree):
                heads = [holder.iter] if isinstance(holder, (ast.For, ast.comprehension)) else []
                if isinstance(holder, ast.Compare):
                    heads = [right for sign, right in zip(holder.ops, holder.comparators) if isinstance(sign, ast.In)]
                for node in ast.iter_child_nodes(holder):
                    if called(node) in AT_ONCE and node not in heads:
                        self.assertIn(called(holder), TAKING, (path, node.lineno))

    def test_module_level(self):  # L3, L15
        for path, tree in trees():
            bound = []
            for node in tree.body:
                self.assertIsInstance(node, (ast.Expr, ast.ImportFrom, ast.FunctionDef, ast.ClassDef, ast.Assign), path)
                if isinstance(node, ast.ImportFrom):
                    bound.extend(name.name for name in node.names)
            bound.extend(sorted(defined(tree)))
            self.assertEqual(len(bound), len(set(bound)), path)

    def test_statements(self):  # L6
        for path, node in nodes(ast.stmt):
            self.assertIsInstance(node, STATEMENTS, (path, node.lineno))

    def test_no_fractions_and_no_open_powers(self):  # L7, L27
        for path, node in nodes(ast.Constant):
            self.assertNotIsInstance(node.value, (float, complex), (path, node.lineno))
            if isinstance(node.value, str):
                self.assertNotIn("%", node.value, (path, node.lineno))
        for path, node in nodes(ast.BinOp, ast.AugAssign):
            self.assertNotIsInstance(node.op, ast.Div, (path, node.lineno))
            if isinstance(node.op, ast.Pow):
                self.assertIsInstance(getattr(node, "right", None), ast.Constant, (path, node.lineno))

    def test_is_stands_beside_none_true_and_false(self):  # L20
        for path, node in nodes(ast.Compare):
            for sign, right in zip(node.ops, node.comparators):
                if isinstance(sign, (ast.Is, ast.IsNot)):
                    self.assertIsInstance(right, ast.Constant, (path, node.lineno))

    def test_lists_where_a_class_has_its_own_equality(self):  # L7, L25
        for path, node in nodes(ast.Call):
            if isinstance(node.func, ast.Name) and node.func.id in OVER_LISTS:
                for handed in node.args:
                    self.assertNotIsInstance(handed, ast.GeneratorExp, (path, node.lineno))
            if isinstance(node.func, ast.Attribute):
                self.assertNotEqual(node.func.attr, "sort", (path, node.lineno))

    def test_raised_on_the_spot(self):  # L19
        for path, node in nodes(ast.Raise):
            if node.exc is not None:
                self.assertIsInstance(node.exc, ast.Call, (path, node.lineno))
                self.assertIsInstance(node.exc.func, ast.Name, (path, node.lineno))

    def test_lengths_are_lens(self):  # L28
        for path, node in nodes(ast.FunctionDef):
            if node.name in ("__len__", "__str__", "__repr__"):
                self.assertIsInstance(node.body[-1], ast.Return, (path, node.lineno))
            if node.name == "__len__":
                self.assertEqual(node.body[-1].value.func.id, "len", (path, node.lineno))


if __name__ == "__main__":
    unittest.main()

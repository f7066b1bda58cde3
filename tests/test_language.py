"""Those rules of LANGUAGE.md that a look at the package's files can tell, each named by its number."""

import ast
import builtins
import pathlib
import re
import unittest

PACKAGE = pathlib.Path(__file__).resolve().parent.parent / "likenest"
ALLOWED_BUILTINS = set("""len range enumerate zip min max sum abs sorted reversed int str bool list tuple dict set
    frozenset isinstance ord repr any all divmod super property staticmethod classmethod bytes object float
    Exception ValueError TypeError KeyError IndexError LookupError ZeroDivisionError ArithmeticError OverflowError
    RuntimeError NotImplementedError AttributeError StopIteration NotImplemented""".split())
BARRED_NAMES = set("""register mro elements open input version_info with_traceback add_note attrgetter breakpoint
    builtins compile copyright credits delattr dir eval exec exit gc getattr globals hasattr help id importlib
    license locals methodcaller os quit setattr type vars sys""".split())
BARRED_WORDS = set("""type typing typing_extensions enum Enum IntEnum StrEnum Flag IntFlag Generic Protocol ABC
    ABCMeta namedtuple NamedTuple TypedDict TYPE_CHECKING abstractmethod""".split())
BARRED_INSIDE = ("dataclass", "overload", "contextmanager")
METHODS = set("""__init__ __eq__ __repr__ __str__ __len__ __enter__ __exit__ __call__ __iter__""".split())
BUILTIN_METHODS = set("""append clear copy count endswith extend find get index insert isalnum isalpha isdigit
    islower isspace isupper items join keys ljust lower lstrip partition pop remove replace reverse rfind rjust
    rpartition rsplit rstrip setdefault split splitlines startswith strip update upper values zfill bit_length
    add discard __init__""".split())
BARRED_NODES = (ast.Global, ast.AsyncFunctionDef, ast.AsyncFor, ast.AsyncWith, ast.Await, ast.Div, ast.Import)
FUNCTIONS = (ast.FunctionDef, ast.Lambda)


def files():
    return sorted(PACKAGE.rglob("*.py"))


def nodes():
    """Each node of each file, with the file's name."""
    return [(path.name, node) for path in files() for node in ast.walk(ast.parse(path.read_text("utf-8")))]


def own_methods():
    return {below.name for name, node in nodes() if isinstance(node, ast.ClassDef)
            for below in node.body if isinstance(below, ast.FunctionDef)}


def bound_names(node):
    """The names that a node gives a meaning to."""
    if isinstance(node, (ast.FunctionDef, ast.ClassDef)):
        return [node.name]
    if isinstance(node, ast.arg):
        return [node.arg]
    if isinstance(node, ast.Name) and isinstance(node.ctx, ast.Store):
        return [node.id]
    if isinstance(node, ast.ImportFrom):
        return [alias.asname or alias.name for alias in node.names]
    return []


def is_call_of(node, name):
    return isinstance(node, ast.Call) and isinstance(node.func, ast.Name) and node.func.id == name


class Language(unittest.TestCase):
    def test_l1_only_files_with_plain_names(self):
        self.assertTrue((PACKAGE / "__init__.py").is_file())
        for path in PACKAGE.iterdir():
            if path.name != "__pycache__":
                self.assertRegex(path.name, r"^[a-z0-9_]+\.py$")

    def test_l10_and_l14_sizes_and_characters(self):
        for path in files():
            text = path.read_text("utf-8")
            self.assertRegex(text, r"\A[ -~\n]*\Z", path.name)
            self.assertLessEqual(len(text.splitlines()), 400, path.name)
            self.assertLessEqual(max(len(line) for line in text.splitlines()), 120, path.name)
        for name, node in nodes():
            if isinstance(node, ast.FunctionDef):
                self.assertLessEqual(node.end_lineno - node.lineno + 1, 40, (name, node.name))

    def test_l2_and_l16_imports(self):
        for name, node in nodes():
            if isinstance(node, ast.ImportFrom):
                self.assertEqual(node.level, 0, name)
                self.assertRegex(node.module, r"^likenest\.[a-z0-9_]+$", name)
                self.assertNotIn("*", [alias.name for alias in node.names], name)

    def test_l3_and_l15_module_level(self):
        allowed = (ast.ImportFrom, ast.FunctionDef, ast.ClassDef, ast.Assign)
        for path in files():
            bound = []
            for place, node in enumerate(ast.parse(path.read_text("utf-8")).body):
                if place == 0 and isinstance(node, ast.Expr):
                    continue
                self.assertIsInstance(node, allowed, path.name)
                targets = node.targets if isinstance(node, ast.Assign) else [node]
                bound += [name for target in targets for name in bound_names(target)]
            self.assertEqual(len(bound), len(set(bound)), path.name)

    def test_l5_methods(self):
        for name in own_methods():
            if name.startswith("__"):
                self.assertIn(name, METHODS)

    def test_l6_and_l7_nodes(self):
        for name, node in nodes():
            self.assertNotIsInstance(node, BARRED_NODES, name)
            if isinstance(node, ast.Constant):
                self.assertNotIsInstance(node.value, (float, complex), name)
            # L7 asks for lists in any, all and the like as soon as one class has an __eq__.
            self.assertNotIsInstance(node, ast.GeneratorExp, (name, getattr(node, "lineno", 0)))

    def test_l8_builtins(self):
        for name, node in nodes():
            if isinstance(node, ast.Name) and hasattr(builtins, node.id):
                self.assertIn(node.id, ALLOWED_BUILTINS, name)

    def test_l12_l15_and_l17_names(self):
        for path, node in nodes():
            for name in bound_names(node):
                self.assertNotIn(name, BARRED_NAMES, path)
                if name not in METHODS:
                    self.assertRegex(name, r"^[A-Za-z][A-Za-z0-9_]*$", path)
                    self.assertFalse(hasattr(builtins, name) and not isinstance(node, ast.FunctionDef), (path, name))

    def test_l15_no_local_name_is_an_import_or_a_class(self):
        for path in files():
            tree = ast.parse(path.read_text("utf-8"))
            taken = {name for node in ast.walk(tree) if isinstance(node, (ast.ImportFrom, ast.ClassDef))
                     for name in bound_names(node)}
            for function in [node for node in ast.walk(tree) if isinstance(node, FUNCTIONS)]:
                for node in ast.walk(function):
                    if isinstance(node, (ast.arg, ast.Name)):
                        self.assertFalse(taken & set(bound_names(node)), path.name)

    def test_l17_words(self):
        for path in files():
            text = path.read_text("utf-8")
            self.assertFalse(BARRED_WORDS & set(re.findall(r"[A-Za-z_0-9]+", text)), path.name)
            for word in BARRED_INSIDE:
                self.assertNotIn(word, text, path.name)

    def test_l20_is(self):
        for name, node in nodes():
            if isinstance(node, ast.Compare):
                for sign, right in zip(node.ops, node.comparators):
                    if isinstance(sign, (ast.Is, ast.IsNot)):
                        self.assertTrue(isinstance(right, ast.Constant) and right.value in (None, True, False), name)

    def test_l23_iterated_at_once(self):
        for name, node in nodes():
            if isinstance(node, (ast.Assign, ast.Return)) and isinstance(node.value, ast.Call):
                called = node.value.func
                self.assertNotIn(getattr(called, "id", ""), ("zip", "enumerate", "reversed", "range"), name)
                self.assertNotIn(getattr(called, "attr", ""), ("items", "keys", "values"), name)

    def test_l24_no_set_is_stored_or_iterated(self):
        for name, node in nodes():
            if isinstance(node, (ast.Assign, ast.Return)):
                self.assertNotIsInstance(node.value, (ast.Set, ast.SetComp), name)
                self.assertFalse(is_call_of(node.value, "set"), name)
            if isinstance(node, (ast.For, ast.comprehension)):
                self.assertNotIsInstance(node.iter, (ast.Set, ast.SetComp), name)
                self.assertFalse(is_call_of(node.iter, "set"), name)

    def test_l25_methods_of_builtin_values(self):
        allowed = BUILTIN_METHODS | own_methods()
        for name, node in nodes():
            if isinstance(node, ast.Call) and isinstance(node.func, ast.Attribute):
                self.assertIn(node.func.attr, allowed, (name, node.lineno))

    def test_l27_no_percent_sign_in_a_text(self):
        for name, node in nodes():
            if isinstance(node, ast.Constant) and isinstance(node.value, str):
                self.assertNotIn("%", node.value, name)

    def test_l27_no_f_string_over_two_lines(self):
        for name, node in nodes():
            if isinstance(node, ast.JoinedStr):
                self.assertEqual(node.lineno, node.end_lineno, name)

    def test_l28_last_statements(self):
        for name, node in nodes():
            if isinstance(node, ast.FunctionDef) and node.name in ("__len__", "__eq__", "__str__", "__repr__"):
                self.assertIsInstance(node.body[-1], ast.Return, name)
                for below in ast.walk(node):
                    self.assertNotIsInstance(below, (ast.Assign, ast.AugAssign, ast.Delete), name)
                    if node.name == "__len__" and isinstance(below, ast.Return):
                        self.assertTrue(is_call_of(below.value, "len"), name)

    def test_l18_no_name_is_a_method_and_an_attribute(self):
        stored = {node.attr for name, node in nodes()
                  if isinstance(node, ast.Attribute) and isinstance(node.ctx, ast.Store)}
        self.assertFalse(stored & own_methods())

    def test_l18_what_is_read_off_an_object_is_assigned_or_a_method(self):
        stored = {node.attr for name, node in nodes()
                  if isinstance(node, ast.Attribute) and isinstance(node.ctx, ast.Store)}
        allowed = stored | own_methods() | BUILTIN_METHODS
        for name, node in nodes():
            if isinstance(node, ast.Attribute) and isinstance(node.ctx, ast.Load):
                self.assertIn(node.attr, allowed, (name, node.lineno))

    def test_l16_no_two_files_import_from_each_other(self):
        needs = {path.stem: set() for path in files()}
        for path in files():
            for node in ast.walk(ast.parse(path.read_text("utf-8"))):
                if isinstance(node, ast.ImportFrom):
                    needs[path.stem].add(node.module.partition(".")[2])
        left = set(needs)
        while ready := {name for name in left if not needs[name] & left}:
            left -= ready
        self.assertFalse(left)

    def test_l16_each_import_names_the_file_that_defines_the_name(self):
        for path in files():
            for node in ast.walk(ast.parse(path.read_text("utf-8"))):
                if isinstance(node, ast.ImportFrom):
                    source = PACKAGE / (node.module.partition(".")[2] + ".py")
                    body = ast.parse(source.read_text("utf-8")).body
                    bound = [name for below in body if not isinstance(below, ast.ImportFrom)
                             for name in (bound_names(below.targets[0]) if isinstance(below, ast.Assign) else bound_names(below))]
                    for alias in node.names:
                        self.assertIn(alias.name, bound, path.name)

    def test_l7_stars_only_in_zip_over_a_name(self):
        for name, node in nodes():
            if isinstance(node, ast.Starred):
                self.assertIsInstance(node.value, ast.Name, (name, node.lineno))
            if isinstance(node, ast.Call) and any(isinstance(below, ast.Starred) for below in node.args):
                self.assertTrue(is_call_of(node, "zip"), (name, node.lineno))


if __name__ == "__main__":
    unittest.main()

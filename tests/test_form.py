"""The form of the package's code: the rules of LANGUAGE.md that a look at the code alone can tell."""

import ast
import pathlib
import re
import unittest

PACKAGE = pathlib.Path(__file__).resolve().parent.parent / "exacttable"

BUILTINS = set("""
    len range enumerate zip min max sum abs sorted reversed int str bool bytes list tuple dict set frozenset
    isinstance ord repr any all divmod iter next Exception ValueError TypeError KeyError IndexError LookupError
    ZeroDivisionError ArithmeticError OverflowError RuntimeError NotImplementedError AttributeError StopIteration
    NotImplemented
""".split())

BARRED_WORDS = """
    type typing typing_extensions enum Enum IntEnum StrEnum Flag IntFlag Generic Protocol ABC ABCMeta namedtuple
    NamedTuple TypedDict TYPE_CHECKING abstractmethod
""".split()

BARRED_NAMES = set("""
    register mro elements open input version_info with_traceback add_note attrgetter breakpoint builtins compile
    copyright credits delattr dir eval exec exit gc getattr globals hasattr help id importlib license locals
    methodcaller os quit setattr super vars sys
""".split())

BARRED_NODES = (
    ast.Global, ast.AsyncFor, ast.AsyncFunctionDef, ast.AsyncWith, ast.Await, ast.Import, ast.Div, ast.MatMult,
)

METHODS = set("""
    append clear copy count endswith extend find get index insert isalnum isalpha isdigit islower isspace isupper
    items join keys ljust lower lstrip partition pop remove replace reverse rfind rjust rpartition rsplit rstrip
    setdefault split splitlines startswith strip update upper values zfill bit_length add discard
""".split())

DOUBLE = set("__init__ __eq__ __repr__ __str__ __len__ __enter__ __exit__ __call__ __iter__".split())


def sources():
    return [(path, path.read_text(encoding="utf-8")) for path in sorted(PACKAGE.glob("*.py"))]


def nodes():
    return [(path.name, node) for path, text in sources() for node in ast.walk(ast.parse(text))]


def bound_names(node):
    """The names that a node binds, if it binds some."""
    if isinstance(node, (ast.FunctionDef, ast.ClassDef)):
        return [node.name]
    if isinstance(node, ast.arg):
        return [node.arg]
    if isinstance(node, ast.Name) and isinstance(node.ctx, ast.Store):
        return [node.id]
    if isinstance(node, ast.Attribute):
        return [node.attr]
    return []


class Form(unittest.TestCase):
    def test_the_folder_has_plain_files_alone(self):
        names = [path.name for path in PACKAGE.iterdir() if path.name != "__pycache__"]
        self.assertIn("__init__.py", names)
        for name in names:
            self.assertRegex(name, r"^([a-z][a-z0-9_]*|__init__|__main__)\.py$")

    def test_signs_and_lengths(self):
        for path, text in sources():
            self.assertRegex(text, r"\A[ -~\n]*\Z", path.name)
            self.assertLessEqual(text.count("\n"), 400, path.name)
            self.assertLessEqual(max(len(line) for line in text.split("\n")), 120, path.name)
        for name, node in nodes():
            if isinstance(node, ast.FunctionDef):
                self.assertLessEqual(node.end_lineno - node.lineno + 1, 40, (name, node.name))

    def test_barred_words(self):
        for path, text in sources():
            for word in BARRED_WORDS:
                self.assertIsNone(re.search(r"\b" + word + r"\b", text), (path.name, word))
            for part in ("dataclass", "overload", "contextmanager"):
                self.assertNotIn(part, text, path.name)

    def test_imports_are_of_the_package_by_full_names_at_the_top(self):
        for path, text in sources():
            behind = False
            for node in ast.parse(text).body:
                if isinstance(node, ast.ImportFrom):
                    self.assertFalse(behind, path.name)
                    self.assertEqual(node.level, 0, path.name)
                    self.assertTrue((PACKAGE / (node.module.removeprefix("exacttable.") + ".py")).exists(), path.name)
                elif not isinstance(node, ast.Expr):
                    behind = True
        for name, node in nodes():
            self.assertNotIsInstance(node, BARRED_NODES, name)

    def test_module_level_has_plain_things_alone(self):
        for path, text in sources():
            for node in ast.parse(text).body:
                self.assertIsInstance(node, (ast.Expr, ast.ImportFrom, ast.Assign, ast.FunctionDef, ast.ClassDef),
                                      path.name)
                if isinstance(node, ast.Expr):
                    self.assertIsInstance(node.value, ast.Constant, path.name)

    def test_names(self):
        for name, node in nodes():
            for bound in bound_names(node):
                self.assertTrue(not bound.startswith("_") or bound in DOUBLE, (name, bound))
                self.assertNotIn(bound, BARRED_NAMES, name)
                if not isinstance(node, ast.Attribute):
                    self.assertNotIn(bound, dir(__import__("builtins")), name)

    def test_called_names_are_own_or_allowed(self):
        own = {bound for name, node in nodes() for bound in bound_names(node)}
        for name, node in nodes():
            if isinstance(node, ast.Name) and isinstance(node.ctx, ast.Load):
                self.assertTrue(node.id in own or node.id in BUILTINS, (name, node.id))

    def test_called_methods_are_own_or_allowed(self):
        own = {node.name for name, node in nodes() if isinstance(node, ast.FunctionDef)}
        for name, node in nodes():
            if isinstance(node, ast.Call) and isinstance(node.func, ast.Attribute):
                self.assertTrue(node.func.attr in own or node.func.attr in METHODS, (name, node.func.attr))

    def test_behind_a_star_stands_a_name(self):
        for name, node in nodes():
            if isinstance(node, ast.Starred):
                self.assertIsInstance(node.value, ast.Name, (name, node.lineno))

    def test_ranges_and_their_like_are_iterated_at_once(self):
        for name, node in nodes():
            if isinstance(node, (ast.Assign, ast.Return)) and isinstance(node.value, ast.Call):
                called = node.value.func.id if isinstance(node.value.func, ast.Name) else node.value.func.attr
                self.assertNotIn(called, ("range", "zip", "enumerate", "reversed", "items", "keys", "values"), name)

    def test_imports_name_the_file_that_defines_and_go_round_nowhere(self):
        trees = {path.stem: ast.parse(text) for path, text in sources()}
        behind = {}
        for stem, tree in trees.items():
            asked = [node for node in tree.body if isinstance(node, ast.ImportFrom)]
            behind[stem] = [node.module.removeprefix("exacttable.") for node in asked]
            for node in asked:
                defined = {bound for one in trees[node.module.removeprefix("exacttable.")].body
                           for bound in (bound_names(one) or [target.id for target in getattr(one, "targets", [])])}
                self.assertLessEqual({alias.name for alias in node.names}, defined, stem)
        while behind:
            ready = [stem for stem in behind if not set(behind[stem]) & set(behind)]
            self.assertNotEqual(ready, [], behind)
            for stem in ready:
                del behind[stem]

    def test_no_local_name_is_that_of_an_import_or_a_class(self):
        for path, text in sources():
            tree = ast.parse(text)
            taken = {alias.name for node in tree.body if isinstance(node, ast.ImportFrom) for alias in node.names}
            taken |= {node.name for node in tree.body if isinstance(node, ast.ClassDef)}
            for node in ast.walk(tree):
                if isinstance(node, (ast.arg, ast.Name)):
                    self.assertEqual(set(bound_names(node)) & taken, set(), path.name)

    def test_no_numbers_with_a_point(self):
        for name, node in nodes():
            if isinstance(node, ast.Constant):
                self.assertNotIsInstance(node.value, (float, complex), name)

    def test_powers_have_a_literal_exponent(self):
        for name, node in nodes():
            if isinstance(node, (ast.BinOp, ast.AugAssign)) and isinstance(node.op, ast.Pow):
                exponent = node.right if isinstance(node, ast.BinOp) else node.value
                self.assertIsInstance(exponent, ast.Constant, (name, node.lineno))
                self.assertIn(exponent.value, range(65), (name, node.lineno))

    def test_is_stands_before_none_true_and_false_alone(self):
        for name, node in nodes():
            if isinstance(node, ast.Compare):
                for sign, other in zip(node.ops, node.comparators):
                    if isinstance(sign, (ast.Is, ast.IsNot)):
                        self.assertIsInstance(other, ast.Constant, (name, node.lineno))

    def test_functions_out_of_a_table_are_given_a_name_first(self):
        for name, node in nodes():
            if isinstance(node, ast.Call):
                self.assertIsInstance(node.func, (ast.Name, ast.Attribute), (name, node.lineno))

    def test_what_is_raised_is_made_on_the_spot(self):
        for name, node in nodes():
            if isinstance(node, ast.Raise):
                self.assertIsInstance(node.exc, ast.Call, (name, node.lineno))
                self.assertIsInstance(node.exc.func, ast.Name, (name, node.lineno))
            if isinstance(node, ast.ExceptHandler):
                self.assertIsInstance(node.type, ast.Name, (name, node.lineno))

    def test_strings_have_no_percent_sign(self):
        for name, node in nodes():
            if isinstance(node, ast.Constant) and isinstance(node.value, str):
                self.assertNotIn("%", node.value, name)

    def test_no_name_is_a_method_and_an_attribute(self):
        methods, attributes = set(), set()
        for name, node in nodes():
            if isinstance(node, ast.ClassDef):
                methods |= {one.name for one in node.body if isinstance(one, ast.FunctionDef)}
            if isinstance(node, ast.Attribute) and isinstance(node.ctx, ast.Store):
                attributes.add(node.attr)
        self.assertEqual(methods & attributes, set())


if __name__ == "__main__":
    unittest.main()

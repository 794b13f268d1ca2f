"""The rules of the language that can be told by a look: characters, sizes, imports, names, what is called."""

import ast
import builtins
import os
import re
import unittest

ROOT = os.path.dirname(os.path.dirname(os.path.abspath(__file__)))
PACKAGE = os.path.join(ROOT, "ropesays")
LIBRARY = ("heapq", "math", "itertools", "collections", "__future__")

BUILTINS = """len range enumerate zip min max sum abs sorted reversed int str bool bytes list tuple dict set
    frozenset isinstance ord repr any all divmod pow getattr hasattr setattr iter next map super property staticmethod
    classmethod Exception ValueError TypeError KeyError IndexError LookupError ZeroDivisionError ArithmeticError
    OverflowError RuntimeError NotImplementedError AttributeError StopIteration NotImplemented""".split()

METHODS = """append clear copy count endswith extend find get index insert isalnum isalpha isdigit islower isspace
    isupper items join keys ljust lower lstrip partition pop remove replace reverse rfind rjust rpartition rsplit
    rstrip setdefault split splitlines startswith strip update upper values zfill bit_length title capitalize swapcase
    casefold center expandtabs removeprefix removesuffix rindex isascii isdecimal isnumeric istitle isidentifier
    isprintable __init__""".split()

NO_NAMES = """register mro elements open input law version_info with_traceback add_note attrgetter breakpoint builtins
    compile copyright credits delattr dir eval exec exit gc globals help id importlib license locals methodcaller os
    quit type vars sys""".split()

NO_WORDS = """type typing typing_extensions enum Enum IntEnum StrEnum Flag IntFlag Generic Protocol ABC ABCMeta
    namedtuple NamedTuple TypedDict TYPE_CHECKING abstractmethod _wall _WallAttr""".split()

NO_BEGINS = ("_wall", "_pe_", "_dcw_", "_enum_", "_cm_", "_twin_re_", "_lay_", "_law_", "_stub_", "_sre", "_WallAttr",
             "_cold", "_tuplegetter", "_outside", "_record", "_written_out", "_member_names")

# What takes a list instead of a generator expression, as classes of the package compare.
TAKES_LISTS = ("any", "all", "min", "max", "sum", "sorted")

AT_TOP = (ast.Expr, ast.ImportFrom, ast.FunctionDef, ast.ClassDef, ast.Assign)


def files():
    """The names of the package's files, with their texts."""
    told = {}
    for name in sorted(os.listdir(PACKAGE)):
        if name != "__pycache__":
            with open(os.path.join(PACKAGE, name), encoding="utf-8", newline="") as file:
                told[name] = file.read()
    return told


def nodes(*kinds):
    """All nodes of some kinds, each with the name of its file."""
    for name, text in files().items():
        for node in ast.walk(ast.parse(text)):
            if isinstance(node, kinds):
                yield name, node


def bound_names():
    """All names that are given to something, each with its file."""
    for name, node in nodes(ast.Name, ast.arg, ast.FunctionDef, ast.ClassDef, ast.alias):
        if isinstance(node, ast.Name) and isinstance(node.ctx, ast.Store):
            yield name, node.id
        elif isinstance(node, ast.arg):
            yield name, node.arg
        elif isinstance(node, (ast.FunctionDef, ast.ClassDef, ast.alias)):
            yield name, node.name


def is_bound_inside(node, body):
    """Whether a node gives a variable or a parameter the name of a class or an import of its file."""
    kept = [alias.name for each in body if isinstance(each, ast.ImportFrom) for alias in each.names]
    kept += [each.name for each in body if isinstance(each, ast.ClassDef)]
    if isinstance(node, ast.arg):
        return node.arg in kept
    return isinstance(node, ast.Name) and isinstance(node.ctx, ast.Store) and node.id in kept


class TestFiles(unittest.TestCase):

    def test_file_names(self):
        for name in files():
            self.assertRegex(name, "^[a-z0-9_]+[.]py$")

    def test_characters_and_sizes(self):
        for name, text in files().items():
            lines = text.split("\n")
            self.assertLessEqual(len(lines), 399, name)
            for line in lines:
                self.assertLessEqual(len(line), 120, name)
                self.assertTrue(all(" " <= sign <= "~" for sign in line), (name, line))

    def test_functions_are_small(self):
        for name, node in nodes(ast.FunctionDef):
            self.assertLessEqual(node.end_lineno - node.lineno + 1, 40, (name, node.name))

    def test_what_stands_at_the_top(self):
        for name, text in files().items():
            for at, node in enumerate(ast.parse(text).body):
                self.assertIsInstance(node, AT_TOP, name)
                self.assertEqual(isinstance(node, ast.Expr), at == 0, (name, node.lineno))


class TestImports(unittest.TestCase):

    def test_imports_name_the_file_that_defines(self):
        for name, node in nodes(ast.Import, ast.ImportFrom):
            self.assertIsInstance(node, ast.ImportFrom, name)
            self.assertEqual(node.level, 0, name)
            top, *rest = node.module.split(".")
            self.assertIn(top, ("ropesays", *LIBRARY), name)
            if top == "ropesays":
                body = ast.parse(files()[rest[0] + ".py"]).body
                defined = [each.name for each in body if isinstance(each, (ast.FunctionDef, ast.ClassDef))]
                defined += [each.targets[0].id for each in body if isinstance(each, ast.Assign)]
                for each in node.names:
                    self.assertIn(each.name, defined, name)
                    self.assertIsNone(each.asname, name)

    def test_no_two_files_import_one_another(self):
        imported = {name: set() for name in files()}
        for name, node in nodes(ast.ImportFrom):
            if node.module.startswith("ropesays."):
                imported[name].add(node.module.split(".")[1] + ".py")
        while imported:
            free = [name for name, others in imported.items() if not others & set(imported)]
            self.assertTrue(free, imported)
            for name in free:
                del imported[name]


class TestNames(unittest.TestCase):

    def test_names_of_builtins_mean_builtins(self):
        for name, bound in bound_names():
            self.assertFalse(hasattr(builtins, bound) and not bound.startswith("__"), (name, bound))
            self.assertNotIn(bound, NO_NAMES, name)
            self.assertFalse(bound.startswith(NO_BEGINS), (name, bound))
            self.assertRegex(bound, "^(_|_?[A-Za-z][A-Za-z0-9_]*|__[a-z]+__)$", name)

    def test_imports_and_classes_keep_their_names(self):
        for name, text in files().items():
            body = ast.parse(text).body
            told = [alias.name for node in body if isinstance(node, ast.ImportFrom) for alias in node.names]
            told += [node.name for node in body if isinstance(node, (ast.ClassDef, ast.FunctionDef))]
            told += [node.targets[0].id for node in body if isinstance(node, ast.Assign)]
            self.assertEqual(len(told), len(set(told)), name)
            for node in ast.walk(ast.parse(text)):
                self.assertFalse(is_bound_inside(node, body), (name, getattr(node, "lineno", 0)))

    def test_builtins_that_are_used(self):
        for name, node in nodes(ast.Name):
            if hasattr(builtins, node.id):
                self.assertIn(node.id, BUILTINS, (name, node.lineno))

    def test_methods_that_are_called(self):
        own = {node.name for _, node in nodes(ast.FunctionDef)}
        for name, node in nodes(ast.Call):
            if isinstance(node.func, ast.Attribute):
                self.assertIn(node.func.attr, [*own, *METHODS], (name, node.lineno))

    def test_words_that_do_not_occur(self):
        for name, text in files().items():
            kept = re.sub('#.*|"""(.|\n)*?"""', "", text)
            self.assertFalse(set(re.findall("[A-Za-z_]+", kept)) & set(NO_WORDS), name)
            self.assertNotIn("%\"", kept.replace(" ", ""), name)


class TestStatements(unittest.TestCase):

    def test_what_is_not_used(self):
        for name, node in nodes(ast.Global, ast.Div, ast.AsyncFunctionDef, ast.AsyncFor, ast.AsyncWith):
            self.fail((name, type(node)))

    def test_lists_are_taken(self):
        for name, node in nodes(ast.Call):
            if isinstance(node.func, ast.Name) and node.func.id in TAKES_LISTS:
                for each in node.args:
                    self.assertNotIsInstance(each, ast.GeneratorExp, (name, node.lineno))
            if isinstance(node.func, ast.Attribute):
                self.assertNotEqual(node.func.attr, "sort", (name, node.lineno))

    def test_tables_are_only_read(self):
        # A dict or a list at the top of a file is indexed, or copied; it is not passed on itself.
        for name, text in files().items():
            tree = ast.parse(text)
            tables = [node.targets[0].id for node in tree.body if isinstance(node, ast.Assign)
                      and isinstance(node.value, (ast.Dict, ast.List))]
            read = [node.value for node in ast.walk(tree) if isinstance(node, ast.Subscript)]
            for node in ast.walk(tree):
                if isinstance(node, ast.Call) and isinstance(node.func, ast.Name) and node.func.id in ("list", "dict"):
                    read += node.args
                if isinstance(node, ast.Compare) and isinstance(node.ops[0], (ast.In, ast.NotIn)):
                    read += node.comparators
            for node in ast.walk(tree):
                if isinstance(node, ast.Name) and node.id in tables and isinstance(node.ctx, ast.Load):
                    self.assertIn(node, read, (name, node.lineno))

    def test_methods_are_called_where_they_stand(self):
        own = {node.name for _, node in nodes(ast.FunctionDef)}
        for name, text in files().items():
            tree = ast.parse(text)
            called = [node.func for node in ast.walk(tree) if isinstance(node, ast.Call)]
            stored = {node.attr for node in ast.walk(tree) if isinstance(node, ast.Attribute)
                      and isinstance(node.ctx, ast.Store)}
            for node in ast.walk(tree):
                if isinstance(node, ast.Attribute) and node.attr in own - stored and node.attr[:2] != "__":
                    self.assertIn(node, called, (name, node.lineno))

    def test_literals(self):
        for name, node in nodes(ast.Constant):
            self.assertNotIsInstance(node.value, (float, complex), name)

    def test_exponents(self):
        for name, node in nodes(ast.BinOp):
            if isinstance(node.op, ast.Pow):
                self.assertIsInstance(node.right, ast.Constant, (name, node.lineno))

    def test_decorators(self):
        for name, node in nodes(ast.FunctionDef):
            for each in node.decorator_list:
                self.assertIn(each.id, ("staticmethod", "classmethod", "property"), (name, node.lineno))

    def test_is_stands_with_none_true_and_false(self):
        for name, node in nodes(ast.Compare):
            for sign, other in zip(node.ops, node.comparators):
                if isinstance(sign, (ast.Is, ast.IsNot)):
                    self.assertIsInstance(other, ast.Constant, (name, node.lineno))

    def test_lazy_values_are_not_passed_on(self):
        # range, zip and their like are gone through where they stand.
        lazy = ("range", "zip", "enumerate", "reversed", "map")
        takers = ("list", "tuple", "dict", "sorted", "sum", "any", "all", "min", "max", "enumerate", "zip", "len")
        for name, node in nodes(ast.Call):
            taken = isinstance(node.func, ast.Name) and node.func.id in takers
            for each in [*node.args, *[word.value for word in node.keywords]]:
                if isinstance(each, ast.Call) and isinstance(each.func, ast.Name) and each.func.id in lazy:
                    self.assertTrue(taken, (name, node.lineno))


if __name__ == "__main__":
    unittest.main()

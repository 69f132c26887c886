"""The package keeps to the language rules, as far as a look at its files can tell."""

import ast
import builtins
import functools
import io
import pathlib
import re
import tokenize
import unittest

FOLDER = pathlib.Path(__file__).resolve().parent.parent / "farbuilds"

BUILTINS = set(
    "len range enumerate zip min max sum abs sorted reversed int str bool bytes list tuple dict set frozenset"
    " isinstance ord repr any all divmod Exception ValueError TypeError KeyError IndexError LookupError"
    " ZeroDivisionError ArithmeticError OverflowError RuntimeError NotImplementedError AttributeError StopIteration"
    " NotImplemented".split()
)
METHODS = set(
    "append clear copy count endswith extend find get index insert isalnum isalpha isdigit islower isspace isupper"
    " items join keys ljust lower lstrip partition pop remove replace reverse rfind rjust rpartition rsplit rstrip"
    " setdefault split splitlines startswith strip update upper values zfill bit_length title capitalize swapcase"
    " casefold center expandtabs removeprefix removesuffix rindex isascii isdecimal isnumeric istitle isidentifier"
    " isprintable add discard sort __init__".split()
)
DUNDERS = {"__init__", "__eq__", "__repr__", "__str__", "__len__", "__name__", "__main__"}
BARRED_WORDS = re.compile(
    r"\b(type|typing|typing_extensions|enum|Enum|IntEnum|StrEnum|Flag|IntFlag|Generic|Protocol|ABC|ABCMeta|namedtuple"
    r"|NamedTuple|TypedDict|TYPE_CHECKING|abstractmethod)\b|dataclass|overload|contextmanager"
)
BARRED_NAMES = set(
    "register mro elements open input version_info with_traceback add_note attrgetter breakpoint builtins compile"
    " copyright credits delattr dir eval exec exit gc getattr globals hasattr help id importlib license locals"
    " methodcaller os quit setattr super type vars sys format format_map".split()
)
BARRED_NODES = (
    ast.Global, ast.AsyncFunctionDef, ast.AsyncFor, ast.AsyncWith, ast.Await, ast.Import, ast.Div, ast.MatMult,
)


@functools.cache
def sources():
    return {path.stem: path.read_text(encoding="ascii") for path in sorted(FOLDER.glob("*.py"))}


@functools.cache
def trees():
    return {name: ast.parse(source) for name, source in sources().items()}


def nodes(kinds):
    """Each node of these kinds in the package, with its file and row."""
    for name, tree in trees().items():
        for node in ast.walk(tree):
            if isinstance(node, kinds):
                yield f"{name}.py:{getattr(node, 'lineno', 0)}", node


def bound(tree):
    """The names that a file's top binds."""
    names = []
    for node in tree.body:
        if isinstance(node, (ast.FunctionDef, ast.ClassDef)):
            names.append(node.name)
        elif isinstance(node, ast.ImportFrom):
            names.extend(alias.asname or alias.name for alias in node.names)
        elif isinstance(node, ast.Assign):
            names.extend(target.id for target in node.targets)
    return names


def local_names(tree):
    """The names that functions bind: parameters and what is assigned."""
    for node in ast.walk(tree):
        if isinstance(node, ast.FunctionDef):
            for inner in ast.walk(node):
                if isinstance(inner, ast.arg):
                    yield inner.arg
                elif isinstance(inner, ast.Name) and isinstance(inner.ctx, ast.Store):
                    yield inner.id


class Language(unittest.TestCase):
    def test_files(self):
        for path in FOLDER.iterdir():
            if path.name != "__pycache__":
                self.assertRegex(path.name, r"^[a-z0-9_]+\.py$")
        self.assertLessEqual(len(sources()), 100)
        self.assertIn("__init__", sources())

    def test_signs_and_sizes(self):
        for name, source in sources().items():
            self.assertRegex(source, r"^[ -~\n]*$", name)
            self.assertIsNone(BARRED_WORDS.search(source), name)
            rows = source.split("\n")
            self.assertLessEqual(len(rows), 401, name)
            self.assertLessEqual(max(map(len, rows)), 120, name)
        for where, node in nodes(ast.FunctionDef):
            self.assertLessEqual(node.end_lineno - node.lineno + 1, 40, where)

    def test_strings(self):
        for name, source in sources().items():
            for token in tokenize.generate_tokens(io.StringIO(source).readline):
                if token.type == tokenize.STRING:
                    self.assertNotIn("%", token.string, name)
                    self.assertNotRegex(token.string, r"\\[^nt\\'\"]", name)

    def test_imports_name_the_defining_file_in_no_round(self):
        needs = {name: [] for name in sources()}
        for name, tree in trees().items():
            for node in ast.walk(tree):
                if isinstance(node, ast.ImportFrom):
                    self.assertIn(node, tree.body, name)
                    self.assertEqual(node.level, 0)
                    package, file = node.module.split(".")
                    self.assertEqual(package, "farbuilds")
                    for alias in node.names:
                        imported = [
                            inner.asname or inner.name for other in trees()[file].body
                            if isinstance(other, ast.ImportFrom) for inner in other.names
                        ]
                        self.assertIn(alias.name, bound(trees()[file]))
                        self.assertNotIn(alias.name, imported)
                    needs[name].append(file)
        while needs:
            free = [name for name in needs if not any(file in needs for file in needs[name])]
            self.assertTrue(free, f"a round among {sorted(needs)}")
            needs = {name: needs[name] for name in needs if name not in free}

    def test_the_top_of_a_file(self):
        for name, tree in trees().items():
            for node in tree.body:
                plain = isinstance(node, (ast.FunctionDef, ast.ClassDef, ast.ImportFrom, ast.Assign))
                docstring = isinstance(node, ast.Expr) and isinstance(node.value, ast.Constant)
                self.assertTrue(plain or docstring, f"{name}.py:{node.lineno}")
            self.assertEqual(len(bound(tree)), len(set(bound(tree))), name)
            self.assertTrue(ast.get_docstring(tree), name)

    def test_barred_statements_and_values(self):
        for where, node in nodes(BARRED_NODES):
            self.fail(f"{where}: {node}")
        for where, node in nodes(ast.Constant):
            self.assertNotIsInstance(node.value, (float, complex), where)
        for where, node in nodes(ast.Compare):
            for sign, right in zip(node.ops, node.comparators):
                if isinstance(sign, (ast.Is, ast.IsNot)):
                    self.assertIn(repr(getattr(right, "value", right)), ("None", "True", "False"), where)
        for where, node in nodes(ast.GeneratorExp):
            self.fail(f"{where}: a list stands here, as classes with their own equality come")

    def test_names(self):
        for where, node in nodes((ast.Name, ast.arg, ast.FunctionDef, ast.ClassDef, ast.Attribute)):
            name = getattr(node, "id", None) or getattr(node, "arg", None) or getattr(node, "name", None) or node.attr
            if name not in DUNDERS:
                self.assertRegex(name, r"^[A-Za-z][A-Za-z0-9_]*$", where)
            self.assertNotIn(name, BARRED_NAMES, where)

    def test_only_these_builtins(self):
        for name, tree in trees().items():
            known = set(bound(tree)) | set(local_names(tree)) | BUILTINS
            for node in ast.walk(tree):
                if isinstance(node, ast.Name):
                    self.assertIn(node.id, known, f"{name}.py:{node.lineno}")

    def test_no_name_has_two_meanings(self):
        for name, tree in trees().items():
            taken = set(dir(builtins))
            for node in tree.body:
                if isinstance(node, ast.ClassDef):
                    taken.add(node.name)
                elif isinstance(node, ast.ImportFrom):
                    taken.update(alias.name for alias in node.names)
            self.assertEqual(taken & set(local_names(tree)), set(), name)
            self.assertEqual(set(dir(builtins)) & set(bound(tree)), set(), name)

    def test_only_these_methods(self):
        own = {inner.name for where, node in nodes(ast.ClassDef) for inner in node.body
               if isinstance(inner, ast.FunctionDef)}
        for where, node in nodes(ast.Call):
            if isinstance(node.func, ast.Attribute):
                self.assertIn(node.func.attr, METHODS | own, where)

    def test_no_name_is_a_method_and_an_attribute(self):
        methods = {inner.name for where, node in nodes(ast.ClassDef) for inner in node.body
                   if isinstance(inner, ast.FunctionDef)}
        stored = {node.attr for where, node in nodes(ast.Attribute) if isinstance(node.ctx, ast.Store)}
        self.assertEqual(methods & stored, set())

    def test_functions_and_their_defaults(self):
        for where, node in nodes((ast.FunctionDef, ast.Lambda)):
            self.assertEqual(node.args.posonlyargs, [], where)
            for default in node.args.defaults + [default for default in node.args.kw_defaults if default]:
                self.assertNotIsInstance(default, (ast.List, ast.Dict, ast.Call), where)
        for where, node in nodes(ast.ClassDef):
            self.assertEqual(node.decorator_list, [], where)

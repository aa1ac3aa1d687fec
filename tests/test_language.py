"""The form of the code of the package: those rules of it that a short test can see."""

import ast
import re
import unittest
import warnings
from pathlib import Path

FOLDER = Path(__file__).resolve().parent.parent / "hullwright"
FILES = sorted(FOLDER.glob("**/*.py"))
BUILTINS = set("""len range enumerate zip min max sum abs sorted reversed int str bool bytes list tuple dict set
    isinstance ord repr any all divmod iter next map ValueError KeyError""".split())
ALL_BUILTINS = set(dir(__builtins__) if not isinstance(__builtins__, dict) else __builtins__)
METHODS = set("""append clear copy count endswith extend find get index insert isalnum isalpha isdigit islower isspace
    isupper items join keys ljust lower lstrip partition pop remove replace reverse rfind rjust rpartition rsplit rstrip
    setdefault split splitlines startswith strip update upper values zfill bit_length add discard sort""".split())
LIBRARY = {"math": {"gcd", "lcm", "isqrt", "comb", "perm", "factorial"},
           "itertools": {"product", "combinations", "permutations"}}
NODES = set("""Module FunctionDef ClassDef Return Delete Assign AugAssign For While If Raise Try Assert ImportFrom Expr
    Pass Break Continue BoolOp BinOp UnaryOp Lambda IfExp Dict Set ListComp SetComp DictComp GeneratorExp Compare Call
    JoinedStr FormattedValue Constant Attribute Subscript Starred Name List Tuple Slice Load Store Del And Or Add Sub
    Mult Mod Pow FloorDiv LShift RShift BitOr BitXor BitAnd Invert Not UAdd USub Eq NotEq Lt LtE Gt GtE Is IsNot In
    NotIn comprehension ExceptHandler arguments arg keyword alias""".split())
BARRED = set("""register mro elements open input law version_info with_traceback add_note type vars eval exec dir id
    compile globals locals super os sys help exit quit""".split())
WORDS = re.compile(r"\b(type|typing|enum|Enum|IntEnum|Flag|Generic|Protocol|ABC|namedtuple|NamedTuple|TypedDict)\b")


def trees():
    """Yield the name, the text and the tree of each file."""
    for path in FILES:
        text = path.read_text(encoding="utf-8")
        yield path.name, text, ast.parse(text)


def nodes(kind):
    """Yield all nodes of a kind, with the names of their files."""
    for name, _, tree in trees():
        for node in ast.walk(tree):
            if isinstance(node, kind):
                yield name, node


def bound_names(tree):
    """Return the names of functions, classes, parameters and variables."""
    found = []
    for node in ast.walk(tree):
        if isinstance(node, (ast.FunctionDef, ast.ClassDef)):
            found.append(node.name)
        elif isinstance(node, ast.arg):
            found.append(node.arg)
        elif isinstance(node, ast.Name) and isinstance(node.ctx, ast.Store):
            found.append(node.id)
    return found


class LanguageTest(unittest.TestCase):
    def test_files(self):
        self.assertLessEqual(len(FILES), 100)
        for path in FOLDER.iterdir():
            if path.name != "__pycache__":
                self.assertRegex(path.name, r"^[a-z_]+\.py$")

    def test_sizes_and_characters(self):
        for name, text, _ in trees():
            self.assertLessEqual(len(text.splitlines()), 399, name)
            self.assertTrue(all(c == "\n" or " " <= c <= "~" for c in text), name)
            self.assertTrue(all(len(line) <= 120 for line in text.splitlines()), name)
        for name, node in nodes(ast.FunctionDef):
            self.assertLessEqual(node.end_lineno - node.lineno + 1, 40, (name, node.name))

    def test_no_warning(self):
        with warnings.catch_warnings():
            warnings.simplefilter("error")
            for name, text, _ in trees():
                compile(text, name, "exec")

    def test_kinds_of_nodes(self):
        for name, node in nodes(ast.AST):
            self.assertIn(type(node).__name__, NODES, (name, getattr(node, "lineno", None)))
        for name, node in nodes((ast.FunctionDef, ast.ClassDef)):
            self.assertEqual(node.decorator_list, [], name)
            if node.name != "__init__":
                self.assertIsNotNone(ast.get_docstring(node), (name, node.name))

    def test_imports(self):
        names = {path.stem for path in FILES}
        for name, node in nodes(ast.ImportFrom):
            self.assertEqual(node.level, 0)
            self.assertTrue(all(entry.asname is None for entry in node.names))
            if node.module in LIBRARY:
                self.assertTrue({entry.name for entry in node.names} <= LIBRARY[node.module], name)
            else:
                package, module = node.module.split(".")
                self.assertEqual(package, "hullwright")
                self.assertIn(module, names)

    def test_imports_have_no_circle(self):
        needs = {path.stem: [] for path in FILES}
        for name, node in nodes(ast.ImportFrom):
            if node.module not in LIBRARY:
                needs[name[:-3]].append(node.module.split(".")[1])
        while needs:
            free = [name for name, others in needs.items() if not any(other in needs for other in others)]
            self.assertTrue(free, needs)
            for name in free:
                del needs[name]

    def test_imported_names_are_used_and_defined_there(self):
        defined = {}
        for name, _, tree in trees():
            tops = [node.name for node in tree.body if isinstance(node, (ast.FunctionDef, ast.ClassDef))]
            tops += [target.id for node in tree.body if isinstance(node, ast.Assign) for target in node.targets]
            self.assertEqual(len(tops), len(set(tops)), name)
            defined["hullwright." + name[:-3]] = tops
        for name, _, tree in trees():
            used = {node.id for node in ast.walk(tree) if isinstance(node, ast.Name)}
            for node in tree.body:
                if isinstance(node, ast.ImportFrom):
                    for entry in node.names:
                        self.assertIn(entry.name, used, name)
                        if node.module not in LIBRARY:
                            self.assertIn(entry.name, defined[node.module], name)

    def test_names(self):
        for name, _, tree in trees():
            barred = {entry.name for node in tree.body if isinstance(node, ast.ImportFrom) for entry in node.names}
            barred |= {node.name for node in tree.body if isinstance(node, ast.ClassDef)}
            inner = [entry for entry in bound_names(tree) if entry != "__init__"]
            for entry in inner:
                self.assertNotIn(entry, ALL_BUILTINS | BARRED, name)
                self.assertRegex(entry, r"^_?[A-Za-z][A-Za-z0-9_]*$|^_$", name)
            for node in ast.walk(tree):
                if isinstance(node, ast.FunctionDef):
                    for entry in bound_names(node)[1:]:
                        self.assertNotIn(entry, barred, (name, node.name))

    def test_builtins(self):
        for name, _, tree in trees():
            for node in ast.walk(tree):
                if isinstance(node, ast.Name) and isinstance(node.ctx, ast.Load) and node.id in ALL_BUILTINS:
                    self.assertIn(node.id, BUILTINS, (name, node.lineno))

    def test_methods(self):
        own = {node.name for _, node in nodes(ast.FunctionDef)}
        for name, node in nodes(ast.Call):
            if isinstance(node.func, ast.Attribute):
                self.assertIn(node.func.attr, METHODS | own, (name, node.lineno))

    def test_strings_and_words(self):
        for name, node in nodes(ast.Constant):
            if isinstance(node.value, str):
                self.assertNotIn("%", node.value, name)
            self.assertNotIsInstance(node.value, (float, complex, bytes), name)
        for name, text, _ in trees():
            self.assertIsNone(WORDS.search(text), name)

    def test_no_state_and_no_code_at_module_level(self):
        for name, _, tree in trees():
            for node in tree.body:
                self.assertIsInstance(
                    node, (ast.Expr, ast.ImportFrom, ast.FunctionDef, ast.ClassDef, ast.Assign), name)
                if isinstance(node, ast.Expr):
                    self.assertIsInstance(node.value, ast.Constant, name)

    def test_sets_stand_in_sorted_or_len(self):
        for name, _, tree in trees():
            parents = {child: node for node in ast.walk(tree) for child in ast.iter_child_nodes(node)}
            for node in ast.walk(tree):
                if isinstance(node, ast.Call) and isinstance(node.func, ast.Name) and node.func.id == "set":
                    around = parents[node]
                    self.assertIsInstance(around, ast.Call, name)
                    self.assertIn(around.func.id, ("sorted", "len"), name)
                self.assertNotIsInstance(node, (ast.Set, ast.SetComp), name)

"""What can be seen of the rules of LANGUAGE.md without running the package, by their numbers."""

import ast
import builtins
import io
import pathlib
import re
import tokenize
import unittest

FOLDER = pathlib.Path(__file__).resolve().parent.parent / "rootfirst"
FILES = sorted(FOLDER.glob("*.py"))

BUILTINS = set("""
    len range enumerate zip min max sum abs sorted reversed int str bool bytes list tuple dict set frozenset isinstance
    ord repr any all divmod pow getattr hasattr setattr Exception ValueError TypeError KeyError IndexError LookupError
    ZeroDivisionError ArithmeticError OverflowError RuntimeError NotImplementedError AttributeError StopIteration
    NotImplemented iter next map super property staticmethod classmethod
""".split())
METHODS = set("""
    append clear copy count endswith extend find get index insert isalnum isalpha isdigit islower isspace isupper items
    join keys ljust lower lstrip partition pop remove replace reverse rfind rjust rpartition rsplit rstrip setdefault
    split splitlines startswith strip update upper values zfill bit_length add discard sort format __init__
""".split())
BARRED = set("""
    register mro elements open input law version_info with_traceback add_note attrgetter breakpoint compile copyright
    credits delattr dir eval exec exit gc globals help id importlib license locals methodcaller os quit vars sys type
    typing typing_extensions enum Enum IntEnum StrEnum Flag IntFlag Generic Protocol ABC ABCMeta namedtuple NamedTuple
    TypedDict TYPE_CHECKING abstractmethod dataclass overload contextmanager
""".split())
LIBRARY = {"heapq", "math", "itertools", "collections"}
ONLY_AT_ONCE = {"zip", "enumerate", "reversed", "map"}
NODES_LEFT_OUT = (
    ast.Global, ast.AsyncFunctionDef, ast.AsyncFor, ast.AsyncWith, ast.Await, ast.Import, ast.Div, ast.MatMult,
)


def parsed(path):
    return ast.parse(path.read_text())


def functions(tree):
    return [node for node in ast.walk(tree) if isinstance(node, (ast.FunctionDef, ast.Lambda))]


def bound_names(node):
    """The parameters and the names that are assigned anywhere below the node."""
    found = {one.arg for one in ast.walk(node) if isinstance(one, ast.arg)}
    return found | {one.id for one in ast.walk(node) if isinstance(one, ast.Name) and isinstance(one.ctx, ast.Store)}


def imports(tree):
    return [node for node in tree.body if isinstance(node, ast.ImportFrom)]


def top_names(tree):
    found = []
    for node in tree.body:
        if isinstance(node, (ast.FunctionDef, ast.ClassDef)):
            found.append(node.name)
        elif isinstance(node, ast.Assign):
            found += [target.id for target in node.targets]
    return found


class Language(unittest.TestCase):
    def each(self):
        for path in FILES:
            with self.subTest(file=path.name):
                yield path, parsed(path)

    def test_files_and_characters(self):
        """L1, L10, L14."""
        self.assertLessEqual(len(FILES), 100)
        others = [path for path in FOLDER.iterdir() if path not in FILES and path.name != "__pycache__"]
        self.assertEqual(others, [])
        for path, tree in self.each():
            self.assertRegex(path.name, "^[a-z0-9_]+[.]py$")
            text = path.read_text()
            self.assertTrue(all(" " <= sign <= "~" or sign == "\n" for sign in text))
            self.assertLess(text.count("\n"), 400)
            self.assertTrue(all(len(line) <= 120 for line in text.split("\n")))
            for node in functions(tree):
                self.assertLessEqual(node.end_lineno - node.lineno + 1, 40)

    def test_imports(self):
        """L2, L16: by full names from the very file that defines them, and never in a circle."""
        leads = {}
        for path, tree in self.each():
            leads[path.stem] = []
            for node in imports(tree):
                self.assertEqual(node.level, 0)
                self.assertTrue(all(name.asname is None and name.name != "*" for name in node.names))
                if node.module in LIBRARY:
                    continue
                package, file = node.module.split(".")
                self.assertEqual(package, "rootfirst")
                told = top_names(parsed(FOLDER / (file + ".py")))
                self.assertTrue(all(name.name in told for name in node.names))
                leads[path.stem].append(file)
        while leads:
            free = [name for name in leads if not any(other in leads for other in leads[name])]
            self.assertTrue(free, "a circle of imports: %s" % sorted(leads))
            for name in free:
                del leads[name]

    def test_module_level(self):
        """L3, L4, L6, L15."""
        for path, tree in self.each():
            for number, node in enumerate(tree.body):
                doc = number == 0 and isinstance(node, ast.Expr) and isinstance(node.value, ast.Constant)
                plain = isinstance(node, ast.Assign) and len(node.targets) == 1
                self.assertTrue(doc or plain or isinstance(node, (ast.ImportFrom, ast.FunctionDef, ast.ClassDef)))
            names = top_names(tree) + [name.name for node in imports(tree) for name in node.names]
            self.assertEqual(len(names), len(set(names)))
            for node in ast.walk(tree):
                self.assertNotIsInstance(node, NODES_LEFT_OUT)
                self.assertEqual(getattr(node, "decorator_list", []), [])
                if isinstance(node, ast.ClassDef):
                    self.assertIn(node, tree.body)

    def test_no_name_hides_another(self):
        """L8, L15."""
        for path, tree in self.each():
            kept = {name.name for node in imports(tree) for name in node.names}
            kept |= {node.name for node in tree.body if isinstance(node, ast.ClassDef)}
            for node in functions(tree):
                self.assertEqual(bound_names(node) & kept, set())
                self.assertEqual(bound_names(node) & set(top_names(tree)), set())
                self.assertEqual(bound_names(node) & set(dir(builtins)), set())
            self.assertEqual(set(top_names(tree)) & set(dir(builtins)), set())

    def test_builtins_and_methods(self):
        """L8, L25."""
        classes = [node for path in FILES for node in parsed(path).body if isinstance(node, ast.ClassDef)]
        methods = {node.name for one in classes for node in one.body if isinstance(node, ast.FunctionDef)}
        for path, tree in self.each():
            own = bound_names(tree) | set(top_names(tree))
            own |= {name.name for node in imports(tree) for name in node.names}
            own |= {node.name for node in ast.walk(tree) if isinstance(node, ast.FunctionDef)}
            for node in ast.walk(tree):
                if isinstance(node, ast.Name) and isinstance(node.ctx, ast.Load):
                    self.assertTrue(node.id in own or node.id in BUILTINS, node.id)
                if isinstance(node, ast.Call) and isinstance(node.func, ast.Attribute):
                    self.assertIn(node.func.attr, METHODS | methods)

    def test_classes(self):
        """L5, L18: methods with `self` alone ahead, and no name that is a method and an attribute in one class."""
        for path, tree in self.each():
            for one in [node for node in tree.body if isinstance(node, ast.ClassDef)]:
                rest = [node for node in one.body if not isinstance(node, (ast.FunctionDef, ast.Expr))]
                self.assertEqual(rest, [])
                methods = [node for node in one.body if isinstance(node, ast.FunctionDef)]
                self.assertTrue(all(node.args.args[0].arg == "self" for node in methods))
                names = [node.name for node in methods]
                self.assertEqual(len(names), len(set(names)))
                stored = {node.attr for node in ast.walk(one)
                          if isinstance(node, ast.Attribute) and isinstance(node.ctx, ast.Store)}
                self.assertEqual(stored & set(names), set())

    def test_words(self):
        """L12, L17, L27: no barred word, no word with two underscores ahead, no % in a string."""
        for path, tree in self.each():
            for token in tokenize.generate_tokens(io.StringIO(path.read_text()).readline):
                if token.type == tokenize.NAME:
                    self.assertNotIn(token.string, BARRED)
                    self.assertTrue(not token.string.startswith("__") or token.string == "__init__")
            for node in ast.walk(tree):
                if isinstance(node, ast.Constant):
                    self.assertNotIsInstance(node.value, (float, complex))
                    self.assertNotIn("%", str(node.value))
                    self.assertIsNone(re.search("_wall|_WallAttr", str(node.value)))

    def test_what_is_iterated_at_once(self):
        """L20, L23, L24: no kept zip, no iterated set, and `is` with None, True and False only."""
        for path, tree in self.each():
            for node in ast.walk(tree):
                if isinstance(node, (ast.Assign, ast.Return)) and isinstance(node.value, ast.Call):
                    self.assertNotIn(getattr(node.value.func, "id", ""), ONLY_AT_ONCE)
                if isinstance(node, (ast.For, ast.comprehension)):
                    self.assertNotIsInstance(node.iter, (ast.Set, ast.SetComp))
                    if isinstance(node.iter, ast.Call):
                        self.assertNotEqual(getattr(node.iter.func, "id", ""), "set")
                if isinstance(node, ast.Compare):
                    for sign, right in zip(node.ops, node.comparators):
                        if isinstance(sign, (ast.Is, ast.IsNot)):
                            self.assertIsInstance(right, ast.Constant)
                            self.assertIn(repr(right.value), ("None", "True", "False"))


if __name__ == "__main__":
    unittest.main()

"""Some rules of LANGUAGE.md that can be told by looking at the files of the package."""

import ast
import builtins
import re
import unittest
from pathlib import Path

PACKAGE = Path(__file__).parent.parent / "landpoints"
FILES = sorted(PACKAGE.glob("*.py"))
LET_BUILTINS = set("""len range enumerate zip min max sum abs sorted reversed int str bool bytes list tuple dict set
    frozenset isinstance ord repr any all divmod pow getattr hasattr setattr Exception ValueError TypeError KeyError
    IndexError LookupError ZeroDivisionError ArithmeticError OverflowError RuntimeError NotImplementedError
    AttributeError StopIteration NotImplemented map iter next super type property staticmethod classmethod""".split())
LET_METHODS = set("""append clear copy count endswith extend find get index insert isalnum isalpha isdigit islower
    isspace isupper items join keys ljust lower lstrip partition pop remove replace reverse rfind rjust rpartition
    rsplit rstrip setdefault split splitlines startswith strip update upper values zfill bit_length add discard
    isascii isdecimal sort appendleft popleft __init__""".split())
BARRED = set("register mro elements open input law version_info with_traceback add_note".split())
BARRED_NAMES = set("""attrgetter breakpoint builtins compile copyright credits delattr dir eval exec exit gc getattr
    globals hasattr help id importlib license locals methodcaller os quit setattr super type vars sys""".split())
BARRED_WORDS = re.compile(r"\b(typing|typing_extensions|enum|Enum|IntEnum|StrEnum|Flag|IntFlag|Generic|Protocol|ABC"
                          r"|ABCMeta|namedtuple|NamedTuple|TypedDict|TYPE_CHECKING|abstractmethod)\b"
                          r"|dataclass|overload|contextmanager")
LIBRARY = {"heapq", "math", "itertools", "collections", "__future__"}


def trees():
    for file in FILES:
        yield file, ast.parse(file.read_text())


def docstrings(tree):
    for node in ast.walk(tree):
        if isinstance(node, (ast.Module, ast.ClassDef, ast.FunctionDef)) and ast.get_docstring(node) is not None:
            yield node.body[0].value


def bound_names(node):
    """The parameters and local variables of a function."""
    for part in ast.walk(node):
        if isinstance(part, ast.arg):
            yield part.arg
        elif isinstance(part, ast.Name) and isinstance(part.ctx, ast.Store):
            yield part.id


class Language(unittest.TestCase):
    def test_files(self):
        self.assertEqual([file.name for file in PACKAGE.iterdir()
                          if file.suffix != ".py" and file.name != "__pycache__"], [])
        self.assertIn(PACKAGE / "__init__.py", FILES)
        for file in FILES:
            self.assertRegex(file.name, r"^[a-z0-9_]+\.py$")
            self.assertNotIn(file.stem, dir(builtins))

    def test_size_and_signs(self):
        for file in FILES:
            text = file.read_text(encoding="utf-8")
            self.assertRegex(text, r"^[\n -~]*$", file.name)
            self.assertLessEqual(text.count("\n"), 399, file.name)
            self.assertLessEqual(max(len(line) for line in text.split("\n")), 120, file.name)
        for file, tree in trees():
            for node in ast.walk(tree):
                if isinstance(node, ast.FunctionDef):
                    self.assertLessEqual(node.end_lineno - node.lineno + 1, 40, node.name)

    def test_imports(self):
        seen = {}
        for file, tree in trees():
            seen[file.stem] = set()
            for node in ast.walk(tree):
                self.assertNotIsInstance(node, ast.Import)
                if isinstance(node, ast.ImportFrom):
                    self.assertIn(node, tree.body)
                    self.assertEqual(node.level, 0)
                    package, _, stem = node.module.partition(".")
                    if package != "landpoints":
                        self.assertIn(node.module, LIBRARY)
                        continue
                    seen[file.stem].add(stem)
                    defined = {part.name for part in ast.parse((PACKAGE / f"{stem}.py").read_text()).body
                               if isinstance(part, (ast.FunctionDef, ast.ClassDef))}
                    self.assertLessEqual({alias.name for alias in node.names}, defined)
        self.look_for_rounds(seen)

    def look_for_rounds(self, seen):
        left = dict(seen)
        while left:
            ready = [stem for stem in left if not left[stem] & set(left)]
            self.assertTrue(ready, f"files import from each other: {sorted(left)}")
            for stem in ready:
                del left[stem]

    def test_module_level(self):
        for file, tree in trees():
            names = []
            for node in tree.body:
                self.assertIsInstance(node, (ast.Expr, ast.ImportFrom, ast.FunctionDef, ast.ClassDef, ast.Assign))
                if isinstance(node, (ast.FunctionDef, ast.ClassDef)):
                    names.append(node.name)
                if isinstance(node, ast.ImportFrom):
                    names.extend(alias.asname or alias.name for alias in node.names)
            self.assertEqual(len(names), len(set(names)), file.name)

    def test_no_name_is_taken_twice(self):
        taken = set(dir(builtins))
        for file, tree in trees():
            imports = {alias.name for node in tree.body if isinstance(node, ast.ImportFrom) for alias in node.names}
            classes = {node.name for node in tree.body if isinstance(node, ast.ClassDef)}
            for node in tree.body:
                if isinstance(node, (ast.FunctionDef, ast.ClassDef)):
                    self.assertNotIn(node.name, taken | BARRED | BARRED_NAMES)
                    wrong = set(bound_names(node)) & (taken | imports | classes | BARRED | BARRED_NAMES)
                    self.assertEqual(wrong, set(), f"{file.name}: {node.name}")

    def test_builtins_and_methods(self):
        for file, tree in trees():
            own = {part.name for other in FILES for part in ast.walk(ast.parse(other.read_text()))
                   if isinstance(part, (ast.FunctionDef, ast.ClassDef))}
            for node in ast.walk(tree):
                if isinstance(node, ast.Name) and node.id in dir(builtins):
                    self.assertIn(node.id, LET_BUILTINS, file.name)
                if isinstance(node, ast.Call) and isinstance(node.func, ast.Attribute):
                    self.assertIn(node.func.attr, LET_METHODS | own, file.name)

    def test_values_and_signs_in_code(self):
        for file, tree in trees():
            texts = [node.value for node in docstrings(tree)]
            for node in ast.walk(tree):
                self.assertNotIsInstance(node, (ast.GeneratorExp, ast.Div, ast.Global, ast.Await, ast.AsyncFunctionDef))
                if isinstance(node, ast.Constant):
                    self.assertNotIsInstance(node.value, (float, complex))
                    if isinstance(node.value, str) and node.value not in texts:
                        self.assertNotIn("%", node.value, file.name)
            code = ast.unparse(tree)
            for text in sorted(texts, key=len, reverse=True):
                code = code.replace(text, "")
            self.assertIsNone(BARRED_WORDS.search(code), file.name)


if __name__ == "__main__":
    unittest.main()

"""Rules of the language that a look at the files can see, for the files of the package."""

import ast
import builtins
import unittest
from pathlib import Path

FOLDER = Path(__file__).resolve().parent.parent / "ringshores"
FILES = sorted(FOLDER.glob("*.py"))

BUILTINS = set("""len range enumerate zip min max sum abs sorted reversed int str bool list tuple dict
    set isinstance ord repr any all divmod map iter next True False None ValueError KeyError
    NotImplemented""".split())
METHODS = set("""append clear copy count endswith extend find get index insert isalnum isalpha isdigit
    islower isspace isupper items join keys ljust lower lstrip partition pop remove replace reverse
    rfind rjust rpartition rsplit rstrip setdefault split splitlines startswith strip update upper
    values zfill bit_length add discard isascii""".split())
LIBRARY = {"heapq": {"heappush", "heappop"}, "math": {"gcd", "lcm", "isqrt", "comb"},
           "itertools": {"product", "combinations", "permutations"}}
# A class of the package has __eq__ and __len__, so generator expressions are not used either (L7).
NOT_USED = (ast.Global, ast.AsyncFunctionDef, ast.AsyncFor, ast.AsyncWith, ast.Await, ast.Import,
            ast.Div, ast.MatMult, ast.GeneratorExp, ast.Try)
BARRED = set("""type typing enum Enum Generic Protocol ABC namedtuple dataclass overload register mro
    elements open input law globals locals eval exec compile chr print""".split())
AT_ONCE = {"range", "zip", "enumerate", "reversed", "items", "keys", "values"}
GO_OVER = {"list", "tuple", "dict", "sorted", "sum", "any", "all", "enumerate", "zip", "min", "max", "len"}


class Language(unittest.TestCase):
    def trees(self):
        return [(path.name, ast.parse(path.read_text(encoding="utf-8"))) for path in FILES]

    def test_the_folder_contains_nothing_but_python_files(self):
        others = [path.name for path in FOLDER.iterdir()
                  if path.suffix != ".py" and path.name != "__pycache__"]
        self.assertEqual(others, [])
        self.assertIn("__init__.py", [path.name for path in FILES])

    def test_lines_and_signs(self):
        for path in FILES:
            lines = path.read_text(encoding="utf-8").split("\n")
            self.assertLessEqual(len(lines), 400, path.name)
            for line in lines:
                self.assertLessEqual(len(line), 120, path.name)
                self.assertTrue(all(" " <= sign <= "~" for sign in line), path.name)

    def test_functions_have_at_most_forty_lines(self):
        for name, tree in self.trees():
            for node in ast.walk(tree):
                if isinstance(node, ast.FunctionDef):
                    self.assertLessEqual(node.end_lineno - node.lineno + 1, 40, name + node.name)

    def test_imports(self):
        for name, tree in self.trees():
            for node in ast.walk(tree):
                if isinstance(node, ast.ImportFrom):
                    self.assertEqual(node.level, 0, name)
                    if not node.module.startswith("ringshores."):
                        words = {part.name for part in node.names}
                        self.assertLessEqual(words, LIBRARY[node.module], name)

    def test_each_name_is_imported_from_the_file_that_defines_it_and_is_read(self):
        defined = {}
        for name, tree in self.trees():
            defined["ringshores." + name[:-3]] = {node.name for node in tree.body if hasattr(node, "name")} | {
                target.id for node in tree.body if isinstance(node, ast.Assign) for target in node.targets}
        for name, tree in self.trees():
            read = {node.id for node in ast.walk(tree) if isinstance(node, ast.Name)}
            for node in ast.walk(tree):
                if isinstance(node, ast.ImportFrom):
                    words = {part.name for part in node.names}
                    self.assertLessEqual(words, read, name)
                    self.assertTrue(all(part.asname is None for part in node.names), name)
                    if node.module in defined:
                        self.assertLessEqual(words, defined[node.module], name)

    def test_words_and_kinds_of_statements_that_are_not_used(self):
        for name, tree in self.trees():
            for node in ast.walk(tree):
                self.assertNotIsInstance(node, NOT_USED, name)
                if isinstance(node, ast.Constant):
                    self.assertNotIsInstance(node.value, (float, complex), name)
                    if isinstance(node.value, str):
                        self.assertNotIn("%", node.value, name)
                if isinstance(node, ast.Name):
                    self.assertNotIn(node.id, BARRED, name)
                if isinstance(node, (ast.Attribute, ast.FunctionDef)):
                    word = node.attr if isinstance(node, ast.Attribute) else node.name
                    self.assertNotIn(word, BARRED, name)

    def test_names_that_are_read_are_bound_or_among_the_builtins(self):
        for name, tree in self.trees():
            bound = set()
            for node in ast.walk(tree):
                if isinstance(node, (ast.FunctionDef, ast.ClassDef)):
                    bound.add(node.name)
                elif isinstance(node, ast.arg):
                    bound.add(node.arg)
                elif isinstance(node, ast.alias):
                    bound.add(node.name)
                elif isinstance(node, ast.Name) and not isinstance(node.ctx, ast.Load):
                    bound.add(node.id)
            self.assertEqual(bound & BUILTINS, set(), name)
            read = {node.id for node in ast.walk(tree) if isinstance(node, ast.Name)}
            self.assertLessEqual(read - bound, BUILTINS, name)

    def test_no_name_stands_for_a_builtin_or_for_an_import_or_class_of_its_file(self):
        for name, tree in self.trees():
            taken = set(dir(builtins))
            for node in ast.walk(tree):
                if isinstance(node, ast.alias):
                    taken.add(node.asname or node.name)
                elif isinstance(node, ast.ClassDef):
                    self.assertNotIn(node.name, dir(builtins), name)
                    taken.add(node.name)
            for node in ast.walk(tree):
                if isinstance(node, ast.FunctionDef):
                    self.assertNotIn(node.name, taken, name)
                elif isinstance(node, ast.arg):
                    self.assertNotIn(node.arg, taken, name)
                elif isinstance(node, ast.Name) and not isinstance(node.ctx, ast.Load):
                    self.assertNotIn(node.id, taken, name)

    def test_ranges_and_their_like_are_gone_over_at_once(self):
        for name, tree in self.trees():
            at_once = []
            for node in ast.walk(tree):
                if isinstance(node, (ast.For, ast.comprehension)):
                    at_once.append(node.iter)
                if isinstance(node, ast.Call) and isinstance(node.func, ast.Name) and node.args:
                    if node.func.id in GO_OVER:
                        at_once.append(node.args[0])
            for node in ast.walk(tree):
                if isinstance(node, ast.Call) and node not in at_once:
                    word = getattr(node.func, "id", getattr(node.func, "attr", None))
                    self.assertNotIn(word, AT_ONCE, name)

    def test_no_two_files_import_from_each_other(self):
        needs = {}
        for name, tree in self.trees():
            needs["ringshores." + name[:-3]] = {node.module for node in ast.walk(tree)
                                                if isinstance(node, ast.ImportFrom)}
        while needs:
            free = [home for home in needs if not needs[home] & set(needs)]
            self.assertNotEqual(free, [], needs)
            for home in free:
                del needs[home]

    def test_attributes_that_are_read_are_methods_or_assigned(self):
        assigned = set()
        for _, tree in self.trees():
            for node in ast.walk(tree):
                if isinstance(node, ast.FunctionDef):
                    assigned.add(node.name)
                if isinstance(node, ast.Attribute) and isinstance(node.ctx, ast.Store):
                    assigned.add(node.attr)
        for name, tree in self.trees():
            for node in ast.walk(tree):
                if isinstance(node, ast.Attribute):
                    self.assertIn(node.attr, assigned | METHODS, name)

    def test_a_class_has_no_name_as_a_method_and_an_attribute(self):
        for name, tree in self.trees():
            for node in ast.walk(tree):
                if isinstance(node, ast.ClassDef):
                    methods = [part.name for part in node.body if isinstance(part, ast.FunctionDef)]
                    stored = {part.attr for part in ast.walk(node) if isinstance(part, ast.Attribute)
                              and isinstance(part.ctx, ast.Store)}
                    self.assertEqual(len(methods), len(set(methods)), name)
                    self.assertEqual(set(methods) & stored, set(), name)

    def test_methods_of_builtin_values(self):
        own = {node.name for _, tree in self.trees() for node in ast.walk(tree)
               if isinstance(node, ast.FunctionDef)}
        for name, tree in self.trees():
            for node in ast.walk(tree):
                if isinstance(node, ast.Call) and isinstance(node.func, ast.Attribute):
                    self.assertIn(node.func.attr, METHODS | own, name)

"""The package's files keep to the small part of Python: the rules that can be seen by looking at a file's rows."""

import ast
import pathlib
import re
import unittest

FOLDER = pathlib.Path(__file__).resolve().parent.parent / "crewscrane"
FILES = sorted(FOLDER.glob("*.py"))

BUILT_IN = set("""len range enumerate zip min max sum abs sorted reversed int str bool list tuple dict set frozenset
isinstance ord repr any all divmod""".split())
STATEMENTS = (ast.FunctionDef, ast.ClassDef, ast.ImportFrom, ast.Assign, ast.AugAssign, ast.If, ast.While, ast.For,
              ast.Return, ast.Break, ast.Continue, ast.Pass, ast.Raise, ast.Try, ast.Expr)
NOT_USED = (ast.Set, ast.SetComp, ast.DictComp, ast.GeneratorExp, ast.NamedExpr, ast.Starred, ast.Div)
WORDS = set("""type typing typing_extensions enum Enum IntEnum StrEnum Flag IntFlag Generic Protocol ABC ABCMeta
namedtuple NamedTuple TypedDict TYPE_CHECKING abstractmethod dataclass overload contextmanager""".split())
METHODS = set("""append clear copy count endswith extend find get index insert items join keys pop remove replace
reverse setdefault split startswith strip update values bit_length""".split())


class Form(unittest.TestCase):
    def each_tree(self):
        for file in FILES:
            yield file.name, ast.parse(file.read_text(encoding="utf-8"))

    def test_only_plain_files_lie_in_the_package(self):
        names = {file.name for file in FOLDER.iterdir() if file.name != "__pycache__"}
        self.assertEqual(names, {file.name for file in FILES})
        self.assertIn("__init__.py", names)
        self.assertIn("sites.py", names)

    def test_rows_and_signs(self):
        for file in FILES:
            rows = file.read_text(encoding="utf-8").split("\n")
            self.assertLessEqual(len(rows), 400, file.name)
            for number, row in enumerate(rows, start=1):
                self.assertRegex(row, r"\A[ -~]{0,120}\Z", (file.name, number))

    def test_words_that_stand_nowhere(self):
        for file in FILES:
            words = set(re.findall(r"\w+", file.read_text(encoding="utf-8")))
            self.assertEqual(words & WORDS, set(), file.name)

    def test_functions_are_short_and_plain(self):
        for name, tree in self.each_tree():
            for node in ast.walk(tree):
                if isinstance(node, ast.FunctionDef):
                    self.assertLessEqual(node.end_lineno - node.lineno + 1, 40, (name, node.name))
                    self.assertEqual((node.decorator_list, node.args.vararg, node.args.kwarg, node.args.kwonlyargs),
                                     ([], None, None, []), (name, node.name))

    def test_imports_are_of_the_package(self):
        for name, tree in self.each_tree():
            for node in ast.walk(tree):
                self.assertNotIsInstance(node, ast.Import, name)
                if isinstance(node, ast.ImportFrom):
                    self.assertRegex(node.module, r"\Acrewscrane\.[a-z_]+\Z", name)
                    self.assertEqual(node.level, 0, name)

    def test_statements_and_expressions(self):
        for name, tree in self.each_tree():
            for node in ast.walk(tree):
                place = (name, getattr(node, "lineno", 0))
                if isinstance(node, ast.stmt):
                    self.assertIsInstance(node, STATEMENTS, place)
                self.assertNotIsInstance(node, NOT_USED, place)
                if isinstance(node, ast.Assign):
                    self.assertEqual(len(node.targets), 1, place)
                if isinstance(node, ast.Constant):
                    self.assertIsInstance(node.value, (int, str, type(None)), place)

    def test_calls_are_of_own_names_or_of_few_others(self):
        own = set()
        for name, tree in self.each_tree():
            own |= {node.name for node in ast.walk(tree) if isinstance(node, (ast.FunctionDef, ast.ClassDef))}
        for name, tree in self.each_tree():
            stored = {node.id for node in ast.walk(tree) if isinstance(node, ast.Name) and isinstance(node.ctx, ast.Store)}
            self.assertEqual(stored & BUILT_IN, set(), name)
            for node in [node.func for node in ast.walk(tree) if isinstance(node, ast.Call)]:
                if isinstance(node, ast.Name):
                    self.assertIn(node.id, own | stored | BUILT_IN, (name, node.lineno))
                else:
                    self.assertIn(node.attr, own | METHODS, (name, node.lineno))


if __name__ == "__main__":
    unittest.main()

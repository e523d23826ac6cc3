"""Those rules of the language that can be seen from the files alone, as a guard for changes."""

import ast
import pathlib
import re
import unittest

PACKAGE = pathlib.Path(__file__).resolve().parent.parent / "roomsday"
FILES = sorted(PACKAGE.glob("*.py"))

BUILTINS = set("""len range enumerate zip min max sum abs sorted reversed int str bool list tuple dict
set isinstance ord repr any all divmod super property staticmethod classmethod iter next
ValueError TypeError KeyError IndexError LookupError ZeroDivisionError NotImplemented""".split())
METHODS = set("""append clear copy count endswith extend find get index insert isalnum isalpha isdigit
islower isspace isupper items join keys ljust lower lstrip partition pop remove replace reverse rfind
rjust rpartition rsplit rstrip setdefault split splitlines startswith strip update upper values zfill
bit_length __init__ add discard""".split())
BARRED_WORDS = re.compile(
    r"\b(type|typing|typing_extensions|enum|Enum|IntEnum|StrEnum|Flag|IntFlag|Generic|Protocol|ABC|"
    r"ABCMeta|namedtuple|NamedTuple|TypedDict|TYPE_CHECKING|abstractmethod)\b|"
    r"dataclass|overload|contextmanager")
BARRED_NAMES = set("""register mro elements open input law version_info with_traceback add_note
attrgetter breakpoint builtins compile copyright credits delattr dir eval exec exit gc getattr globals
hasattr help id importlib license locals methodcaller os quit setattr vars sys chr print""".split())
BARRED_NODES = (
    ast.GeneratorExp, ast.Global, ast.AsyncFunctionDef, ast.Await, ast.Div, ast.JoinedStr, ast.Import)


def bound_names(tree):
    for node in ast.walk(tree):
        if isinstance(node, (ast.FunctionDef, ast.ClassDef)):
            yield node.name
        elif isinstance(node, ast.arg):
            yield node.arg
        elif isinstance(node, ast.Name) and not isinstance(node.ctx, ast.Load):
            yield node.id
        elif isinstance(node, ast.alias):
            yield node.asname or node.name


class Rules(unittest.TestCase):
    def each(self):
        texts = [path.read_text(encoding="utf-8") for path in FILES]
        return [(text, ast.parse(text)) for text in texts]

    def test_the_folder_holds_plain_files_alone(self):
        self.assertIn("__init__.py", [path.name for path in FILES])
        for path in PACKAGE.iterdir():
            if path.name != "__pycache__":
                self.assertRegex(path.name, r"^(__init__|[a-z][a-z0-9_]*)\.py$")

    def test_signs_and_sizes(self):
        for text, tree in self.each():
            self.assertLessEqual(set(text), set(map(chr, range(32, 127))) | {"\n"})
            self.assertLessEqual(len(text.splitlines()), 399)
            self.assertLessEqual(max(map(len, text.splitlines())), 120)
            for node in ast.walk(tree):
                if isinstance(node, ast.FunctionDef):
                    self.assertLessEqual(node.end_lineno - node.lineno + 1, 40, node.name)

    def test_words_and_names(self):
        for text, tree in self.each():
            self.assertIsNone(BARRED_WORDS.search(text))
            for name in bound_names(tree):
                self.assertNotIn(name, BARRED_NAMES | BUILTINS - {"property"})
                self.assertTrue(name == "__init__" or re.match(r"[A-Za-z][A-Za-z0-9_]*$", name), name)
            for node in ast.walk(tree):
                if isinstance(node, ast.Constant) and isinstance(node.value, str):
                    self.assertNotIn("%", node.value)

    def test_imports_stand_at_the_top_and_are_of_the_package(self):
        for text, tree in self.each():
            imports = [node for node in ast.walk(tree) if isinstance(node, ast.ImportFrom)]
            self.assertEqual(imports, [node for node in tree.body if node in imports])
            for node in imports:
                self.assertEqual(node.level, 0)
                self.assertRegex(node.module, r"^roomsday\.[a-z]+$")
                defined = {
                    one.name for one in ast.parse((PACKAGE / (node.module[9:] + ".py")).read_text()).body
                    if isinstance(one, (ast.FunctionDef, ast.ClassDef))}
                self.assertLessEqual({alias.name for alias in node.names}, defined)

    def test_the_module_level_is_plain_and_binds_each_name_once(self):
        for text, tree in self.each():
            bound = []
            for node in tree.body:
                self.assertIsInstance(
                    node, (ast.Expr, ast.ImportFrom, ast.FunctionDef, ast.ClassDef, ast.Assign))
                if isinstance(node, ast.Expr):
                    self.assertIsInstance(node.value, ast.Constant)
                if isinstance(node, ast.Assign):
                    ast.literal_eval(node.value)
                    bound += [target.id for target in node.targets]
                if isinstance(node, (ast.FunctionDef, ast.ClassDef)):
                    bound.append(node.name)
                if isinstance(node, ast.ImportFrom):
                    bound += [alias.asname or alias.name for alias in node.names]
            self.assertEqual(len(bound), len(set(bound)))
            inside = [node for node in ast.walk(tree) if isinstance(node, (ast.arg, ast.Name))]
            imported = [alias.name for node in tree.body if isinstance(node, ast.ImportFrom)
                        for alias in node.names]
            for node in inside:
                stored = isinstance(node, ast.arg) or isinstance(node.ctx, ast.Store)
                name = node.arg if isinstance(node, ast.arg) else node.id
                self.assertFalse(stored and name in imported, name)

    def test_only_listed_builtins_methods_and_statements(self):
        for text, tree in self.each():
            known = set(bound_names(tree)) | BUILTINS
            for node in ast.walk(tree):
                self.assertNotIsInstance(node, BARRED_NODES)
                if isinstance(node, ast.Name):
                    self.assertIn(node.id, known)
                if isinstance(node, ast.Call) and isinstance(node.func, ast.Attribute):
                    self.assertIn(node.func.attr, METHODS)
                if isinstance(node, ast.Compare):
                    for sign, other in zip(node.ops, node.comparators):
                        if isinstance(sign, (ast.Is, ast.IsNot)):
                            self.assertIn(ast.unparse(other), ("None", "True", "False"))
                if isinstance(node, ast.Constant):
                    self.assertNotIsInstance(node.value, (float, complex))

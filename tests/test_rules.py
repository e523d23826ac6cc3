"""Those rules of the language that can be seen from the files alone, as a guard for changes."""

import ast
import builtins
import pathlib
import re
import unittest

PACKAGE = pathlib.Path(__file__).resolve().parent.parent / "roomsday"
FILES = sorted(PACKAGE.glob("*.py"))

BUILTINS = set("""len range enumerate zip min max sum abs sorted reversed int str bool list tuple dict
set isinstance ord repr any all divmod ValueError""".split())
METHODS = set("""append clear copy count endswith extend find get index insert isalnum isalpha isdigit
islower isspace isupper items join keys ljust lower lstrip partition pop remove replace reverse rfind
rjust rpartition rsplit rstrip setdefault split splitlines startswith strip update upper values zfill
bit_length __init__""".split())
DOUBLE = {"__init__", "__eq__", "__len__"}
BARRED_WORDS = re.compile(
    r"\b(type|typing|typing_extensions|enum|Enum|IntEnum|StrEnum|Flag|IntFlag|Generic|Protocol|ABC|"
    r"ABCMeta|namedtuple|NamedTuple|TypedDict|TYPE_CHECKING|abstractmethod)\b|"
    r"dataclass|overload|contextmanager")
BARRED_NAMES = set("""register mro elements open input law version_info with_traceback add_note
attrgetter breakpoint builtins compile copyright credits delattr dir eval exec exit gc getattr globals
hasattr help id importlib license locals methodcaller os quit setattr super type vars sys""".split())
BUILTIN_NAMES = set(dir(builtins))
VALUE_NAMES = {name for kind in (str, int, list, dict, tuple, set, bytes) for name in dir(kind)}
# The program does without these, allowed ones among them, so that the rules about them need no guard.
BARRED_NODES = (
    ast.GeneratorExp, ast.Global, ast.Nonlocal, ast.AsyncFunctionDef, ast.Await, ast.Div, ast.Import, ast.Lambda,
    ast.Match, ast.With, ast.Yield, ast.YieldFrom, ast.NamedExpr, ast.ExceptHandler, ast.Set, ast.SetComp, ast.Delete,
    ast.AnnAssign, ast.Assert, ast.Pow, ast.Mod)
# Calls that are iterated where they stand, never kept.
AT_ONCE = ("zip", "enumerate", "reversed", "range")


def trees():
    return [(path, ast.parse(path.read_text(encoding="utf-8"))) for path in FILES]


def bound_names(tree):
    for node in ast.walk(tree):
        if isinstance(node, (ast.FunctionDef, ast.ClassDef)):
            yield node.name
        elif isinstance(node, ast.arg):
            yield node.arg
        elif isinstance(node, ast.Name) and not isinstance(node.ctx, ast.Load):
            yield node.id
        elif isinstance(node, ast.alias):
            yield node.asname or node.name


def top_names(tree):
    """The names that a file defines itself."""
    for node in tree.body:
        if isinstance(node, (ast.FunctionDef, ast.ClassDef)):
            yield node.name
        if isinstance(node, ast.Assign):
            yield node.targets[0].id


def imported_from(tree):
    return {node.module: [alias.name for alias in node.names] for node in tree.body if isinstance(node, ast.ImportFrom)}


def all_methods():
    return {
        method.name for _, tree in trees() for node in tree.body if isinstance(node, ast.ClassDef)
        for method in node.body if isinstance(method, ast.FunctionDef)}


def attributes(kind):
    """The names of all attributes that are read (ast.Load) or assigned (ast.Store)."""
    return {node.attr for _, tree in trees() for node in ast.walk(tree)
            if isinstance(node, ast.Attribute) and isinstance(node.ctx, kind)}


class Files(unittest.TestCase):
    def test_the_folder_holds_plain_files_alone(self):
        self.assertIn("__init__.py", [path.name for path in FILES])
        for path in PACKAGE.iterdir():
            if path.name != "__pycache__":
                self.assertRegex(path.name, r"^(__init__|[a-z][a-z0-9_]*)\.py$")

    def test_signs_and_sizes(self):
        for path, tree in trees():
            text = path.read_text(encoding="utf-8")
            self.assertLessEqual(set(text), set(map(chr, range(32, 127))) | {"\n"})
            self.assertLessEqual(len(text.splitlines()), 399)
            self.assertLessEqual(max(map(len, text.splitlines())), 120)
            for node in ast.walk(tree):
                if isinstance(node, ast.FunctionDef):
                    self.assertLessEqual(node.end_lineno - node.lineno + 1, 40, node.name)

    def test_imports_stand_at_the_top_and_name_the_file_that_defines(self):
        for path, tree in trees():
            kinds = [isinstance(node, ast.ImportFrom) for node in tree.body[1:]]
            self.assertEqual(kinds, sorted(kinds, reverse=True), path.name)
            self.assertEqual(sum(kinds), sum(isinstance(node, ast.ImportFrom) for node in ast.walk(tree)))
            for module, names in imported_from(tree).items():
                self.assertRegex(module, r"^roomsday\.[a-z]+$")
                defined = ast.parse((PACKAGE / (module[9:] + ".py")).read_text(encoding="utf-8"))
                self.assertLessEqual(set(names), set(top_names(defined)))

    def test_no_two_files_import_from_each_other(self):
        ahead = {path.stem: [module[9:] for module in imported_from(tree)] for path, tree in trees()}
        while ahead:
            free = [name for name in ahead if not any(other in ahead for other in ahead[name])]
            self.assertTrue(free, ahead)
            for name in free:
                del ahead[name]

    def test_the_module_level_is_plain_and_binds_each_name_once(self):
        for path, tree in trees():
            bound = list(top_names(tree)) + [name for names in imported_from(tree).values() for name in names]
            self.assertEqual(len(bound), len(set(bound)), path.name)
            for node in tree.body:
                self.assertIsInstance(
                    node, (ast.Expr, ast.ImportFrom, ast.FunctionDef, ast.ClassDef, ast.Assign))
                if isinstance(node, ast.Expr):
                    self.assertIsInstance(node.value, ast.Constant)
                if isinstance(node, ast.Assign):
                    ast.literal_eval(node.value)
                    self.assertEqual([type(target) for target in node.targets], [ast.Name])


class Names(unittest.TestCase):
    def test_words_and_names(self):
        for path, tree in trees():
            self.assertIsNone(BARRED_WORDS.search(path.read_text(encoding="utf-8")))
            for name in bound_names(tree):
                self.assertNotIn(name, BARRED_NAMES | BUILTIN_NAMES)
                self.assertTrue(name in DOUBLE or re.match(r"[A-Za-z][A-Za-z0-9_]*$", name), name)
            for node in ast.walk(tree):
                if isinstance(node, ast.Constant) and isinstance(node.value, str):
                    self.assertNotIn("%", node.value)

    def test_no_local_name_is_that_of_a_class_or_an_import(self):
        for path, tree in trees():
            taken = {name for names in imported_from(tree).values() for name in names}
            taken |= {node.name for node in tree.body if isinstance(node, ast.ClassDef)}
            for node in ast.walk(tree):
                if isinstance(node, ast.arg):
                    self.assertNotIn(node.arg, taken)
                if isinstance(node, ast.Name) and isinstance(node.ctx, ast.Store):
                    self.assertNotIn(node.id, taken)

    def test_no_local_name_hides_a_function_that_is_called_there(self):
        for path, tree in trees():
            functions = {node.name for node in tree.body if isinstance(node, ast.FunctionDef)}
            for node in ast.walk(tree):
                if isinstance(node, ast.Name) and isinstance(node.ctx, ast.Store):
                    self.assertNotIn(node.id, functions, path.name)

    def test_methods_and_attributes_have_names_of_their_own(self):
        methods, assigned = all_methods(), attributes(ast.Store)
        self.assertEqual(methods & assigned, set())
        self.assertEqual((methods - DOUBLE) & VALUE_NAMES, set())
        self.assertEqual(assigned & VALUE_NAMES, set())
        self.assertLessEqual({name for name in methods if name.startswith("_")}, DOUBLE)
        self.assertLessEqual(attributes(ast.Load), methods | assigned | METHODS)


class Steps(unittest.TestCase):
    def test_only_listed_builtins_methods_and_statements(self):
        methods = METHODS | all_methods()
        for path, tree in trees():
            known = set(bound_names(tree)) | BUILTINS
            for node in ast.walk(tree):
                self.assertNotIsInstance(node, BARRED_NODES, path.name)
                if isinstance(node, ast.Name):
                    self.assertIn(node.id, known)
                if isinstance(node, ast.Call) and isinstance(node.func, ast.Attribute):
                    self.assertIn(node.func.attr, methods)
                if isinstance(node, ast.Starred):
                    self.assertIsInstance(node.ctx, ast.Store)
                if isinstance(node, ast.Compare):
                    for sign, other in zip(node.ops, node.comparators):
                        if isinstance(sign, (ast.Is, ast.IsNot)):
                            self.assertIn(ast.unparse(other), ("None", "True", "False"))
                if isinstance(node, ast.Constant):
                    self.assertNotIsInstance(node.value, (float, complex))
                if isinstance(node, ast.FormattedValue):
                    self.assertIsNone(node.format_spec)
                    self.assertIsInstance(node.value, ast.Name)

    def test_what_is_iterated_at_once_is_not_kept(self):
        for path, tree in trees():
            at_once = [node.iter for node in ast.walk(tree) if isinstance(node, (ast.For, ast.comprehension))]
            for node in ast.walk(tree):
                if isinstance(node, ast.Call) and isinstance(node.func, ast.Name) and node.func.id in AT_ONCE:
                    self.assertIn(node, at_once, path.name)

    def test_sets_stand_where_they_are_counted(self):
        for path, tree in trees():
            counted = [node.args[0] for node in ast.walk(tree) if isinstance(node, ast.Call) and node.args
                       and isinstance(node.func, ast.Name) and node.func.id in ("len", "sorted")]
            for node in ast.walk(tree):
                if isinstance(node, ast.Call) and isinstance(node.func, ast.Name) and node.func.id == "set":
                    self.assertIn(node, counted)

    def test_builtins_are_called_not_kept(self):
        for path, tree in trees():
            called = [node.func for node in ast.walk(tree) if isinstance(node, ast.Call)]
            asked = [part for node in ast.walk(tree) if isinstance(node, ast.Call)
                     and isinstance(node.func, ast.Name) and node.func.id == "isinstance" for part in node.args[1:]]
            above = [base for node in tree.body if isinstance(node, ast.ClassDef) for base in node.bases]
            for node in ast.walk(tree):
                if isinstance(node, ast.Name) and node.id in BUILTINS:
                    self.assertIn(node, called + asked + above)

    def test_errors_are_made_where_they_are_raised(self):
        errors = set(top_names(ast.parse((PACKAGE / "errors.py").read_text(encoding="utf-8"))))
        for path, tree in trees():
            for node in ast.walk(tree):
                if isinstance(node, ast.Raise):
                    self.assertIsInstance(node.exc, ast.Call)
                    self.assertIn(node.exc.func.id, errors)
                    self.assertEqual(node.exc.keywords, [])

    def test_finally_assigns_plain_values_to_attributes(self):
        for path, tree in trees():
            for node in ast.walk(tree):
                for row in node.finalbody if isinstance(node, ast.Try) else []:
                    self.assertIsInstance(row, ast.Assign)
                    self.assertIsInstance(row.value, ast.Constant)
                    self.assertEqual([type(target) for target in row.targets], [ast.Attribute])

    def test_equality_and_length_are_one_return(self):
        for path, tree in trees():
            for node in ast.walk(tree):
                if isinstance(node, ast.FunctionDef) and node.name in ("__eq__", "__len__"):
                    self.assertEqual([type(row) for row in node.body], [ast.Return])
                    if node.name == "__len__":
                        self.assertEqual(node.body[0].value.func.id, "len")

    def test_defaults_are_plain(self):
        for path, tree in trees():
            for node in ast.walk(tree):
                if isinstance(node, ast.arguments):
                    self.assertEqual(node.posonlyargs, [])
                    for default in node.defaults + [one for one in node.kw_defaults if one is not None]:
                        ast.literal_eval(default)

    def test_no_list_or_dict_of_the_module_level_is_changed_or_passed_on(self):
        for path, tree in trees():
            kept = {node.targets[0].id for node in tree.body if isinstance(node, ast.Assign)
                    and isinstance(node.value, (ast.List, ast.Dict))}
            read = [node.value for node in ast.walk(tree) if isinstance(node, ast.Attribute) and node.attr == "get"]
            for node in ast.walk(tree):
                if isinstance(node, ast.Name) and node.id in kept and isinstance(node.ctx, ast.Load):
                    self.assertIn(node, read)

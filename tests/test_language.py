"""The rules for the code of the package, as far as a look at each file can tell (L1 to L28)."""

import ast
import builtins
import pathlib
import tokenize
import unittest

PACKAGE = pathlib.Path(__file__).resolve().parent.parent / "recordyard"
FILES = sorted(PACKAGE.glob("*.py"))
DOUBLES = {
    "__init__", "__eq__", "__repr__", "__str__", "__len__", "__enter__", "__exit__", "__call__", "__iter__",
}
NODES = (
    ast.Module, ast.ImportFrom, ast.alias, ast.FunctionDef, ast.ClassDef, ast.arguments, ast.arg, ast.Assign, ast.AugAssign,
    ast.If, ast.While, ast.For, ast.Return, ast.Break, ast.Continue, ast.Pass, ast.Raise, ast.Assert, ast.Delete, ast.Expr,
    ast.Try, ast.ExceptHandler, ast.Name, ast.Attribute, ast.Subscript, ast.Slice, ast.Constant, ast.List, ast.Tuple, ast.Dict,
    ast.Set, ast.Call, ast.keyword, ast.Compare, ast.BoolOp, ast.UnaryOp, ast.BinOp, ast.IfExp, ast.ListComp, ast.DictComp,
    ast.SetComp, ast.GeneratorExp, ast.comprehension, ast.JoinedStr, ast.FormattedValue, ast.Lambda, ast.Starred,
    ast.expr_context, ast.operator, ast.unaryop, ast.boolop, ast.cmpop,
)
BUILTINS = set(
    "len range enumerate zip min max sum abs sorted reversed int str bool list tuple dict set isinstance ord repr any all divmod "
    "Exception ValueError TypeError KeyError IndexError LookupError ZeroDivisionError RuntimeError object super".split()
)
METHODS = set(
    "append clear copy count endswith extend find get index insert isalnum isalpha isdigit islower isspace isupper items join keys "
    "ljust lower lstrip partition pop remove replace reverse rfind rjust rpartition rsplit rstrip setdefault split splitlines "
    "startswith strip update upper values zfill bit_length removeprefix removesuffix isascii add discard".split()
)
BARRED_WORDS = set(
    "type typing typing_extensions enum Enum IntEnum StrEnum Flag IntFlag Generic Protocol ABC ABCMeta namedtuple NamedTuple "
    "TypedDict TYPE_CHECKING abstractmethod register mro elements open input law version_info with_traceback add_note".split()
)
BARRED_FILES = set("test tests testing site conftest sitecustomize usercustomize".split()) | (set(dir(builtins)) - DOUBLES) | BARRED_WORDS
BARRED_NAMES = set("_cold _tuplegetter _outside _record _written_out _member_names".split())


TREES = {path.name: ast.parse(path.read_text()) for path in FILES}


def nodes(*kinds):
    """All nodes of these kinds in the package, with the name of their file and their line."""
    for name, tree in TREES.items():
        for node in ast.walk(tree):
            if isinstance(node, kinds):
                yield name + ":" + str(getattr(node, "lineno", 0)), node


def methods():
    return {part.name for _, one in nodes(ast.ClassDef) for part in one.body if isinstance(part, ast.FunctionDef)}


def assigned_attributes():
    return {node.attr for _, node in nodes(ast.Attribute) if isinstance(node.ctx, ast.Store)}


class Files(unittest.TestCase):
    def test_the_folder_has_plain_files_alone(self):
        for path in PACKAGE.iterdir():
            if path.name != "__pycache__":
                self.assertEqual(path.suffix, ".py")
                self.assertEqual(path.name, path.name.lower())
                self.assertTrue(path.stem.isidentifier())
                self.assertNotIn(path.stem, BARRED_FILES)
        self.assertIn(PACKAGE / "__init__.py", FILES)
        self.assertLessEqual(len(FILES), 100)

    def test_sizes_and_signs(self):
        for path in FILES:
            lines = path.read_text().split("\n")
            self.assertLess(len(lines), 400, path)
            for line in lines:
                self.assertLessEqual(len(line), 120, path)
                self.assertTrue(all(" " <= sign <= "~" for sign in line), path)
        for where, node in nodes(ast.FunctionDef):
            self.assertLessEqual(node.end_lineno - node.lineno + 1, 40, where)

    def test_strings(self):
        for path in FILES:
            with open(path, "rb") as stream:
                for token in tokenize.tokenize(stream.readline):
                    if token.type == tokenize.STRING:
                        self.assertNotIn("%", token.string, path)
                        self.assertFalse(token.string.strip("\"'f").endswith(("._", ".__")), path)
        for where, node in nodes(ast.JoinedStr):
            for part in ast.walk(node):
                self.assertFalse(isinstance(part, (ast.Mod, ast.Lambda)), where)


class Names(unittest.TestCase):
    def bound(self):
        for where, node in nodes(ast.FunctionDef, ast.ClassDef, ast.arg, ast.Name, ast.alias):
            if isinstance(node, ast.arg):
                yield where, node.arg
            elif isinstance(node, ast.Name):
                if isinstance(node.ctx, ast.Store):
                    yield where, node.id
            else:
                yield where, node.name

    def test_names_that_are_bound(self):
        own_methods = methods()
        for where, name in self.bound():
            self.assertNotIn(name, BARRED_WORDS | BARRED_NAMES, where)
            self.assertTrue(name in DOUBLES or not name.startswith("__"), where)
            self.assertTrue(name in own_methods or name not in dir(builtins) or name == "_", (where, name))

    def test_attributes(self):
        told = methods() | assigned_attributes() | METHODS
        for where, node in nodes(ast.Attribute):
            self.assertIn(node.attr, told, where)
            self.assertNotIn(node.attr, BARRED_WORDS | {"args", "format"}, where)
            if isinstance(node.ctx, ast.Store):
                for kind in (str, bytes, int, list, dict, set):
                    self.assertNotIn(node.attr, set(dir(kind)) - {"count", "index", "copy", "title"}, where)

    def test_no_name_is_a_method_and_an_attribute_of_one_class(self):
        for where, one in nodes(ast.ClassDef):
            names = {part.name for part in one.body if isinstance(part, ast.FunctionDef)}
            stored = {node.attr for node in ast.walk(one) if isinstance(node, ast.Attribute) and isinstance(node.ctx, ast.Store)}
            self.assertEqual(names & stored, set(), where)

    def test_no_attribute_has_the_name_of_a_method(self):
        # L18 allows a few; without any it is plain what is called.
        self.assertEqual(methods() & assigned_attributes(), set())

    def test_local_names_do_not_hide_those_of_the_file(self):
        for name, tree in TREES.items():
            outer = {part.name for part in tree.body if isinstance(part, ast.ClassDef)}
            for part in tree.body:
                if isinstance(part, ast.ImportFrom):
                    outer |= {alias.name for alias in part.names}
            for node in ast.walk(tree):
                inner = node.arg if isinstance(node, ast.arg) else None
                if isinstance(node, ast.Name) and isinstance(node.ctx, ast.Store):
                    inner = node.id
                self.assertNotIn(inner, outer, name)

    def test_words_that_do_not_occur(self):
        for path in FILES:
            with open(path, "rb") as stream:
                for token in tokenize.tokenize(stream.readline):
                    if token.type == tokenize.NAME:
                        self.assertNotIn(token.string, BARRED_WORDS, path)


class Statements(unittest.TestCase):
    def test_kinds_of_statements_and_expressions(self):
        for name, tree in TREES.items():
            for node in ast.walk(tree):
                self.assertIsInstance(node, NODES, name)
        for where, node in nodes(ast.BinOp):
            self.assertNotIsInstance(node.op, (ast.Div, ast.MatMult), where)
        for where, node in nodes(ast.Constant):
            self.assertNotIsInstance(node.value, (float, complex, bytes), where)

    def test_module_level(self):
        for name, tree in TREES.items():
            for number, part in enumerate(tree.body):
                docstring = number == 0 and isinstance(part, ast.Expr) and isinstance(part.value, ast.Constant)
                self.assertTrue(docstring or isinstance(part, (ast.ImportFrom, ast.FunctionDef, ast.ClassDef, ast.Assign)), name)
                if isinstance(part, ast.Assign):
                    ast.literal_eval(part.value)
                    self.assertIsInstance(part.targets[0], ast.Name)

    def test_imports(self):
        for where, node in nodes(ast.ImportFrom):
            self.assertEqual(node.level, 0, where)
            folder, _, stem = node.module.partition(".")
            self.assertEqual(folder, "recordyard", where)
            other = ast.parse((PACKAGE / (stem + ".py")).read_text())
            defined = {part.name for part in other.body if isinstance(part, (ast.FunctionDef, ast.ClassDef))}
            defined |= {part.targets[0].id for part in other.body if isinstance(part, ast.Assign)}
            for alias in node.names:
                self.assertIn(alias.name, defined, where)
                self.assertIsNone(alias.asname, where)

    def test_no_import_is_left_over(self):
        for name, tree in TREES.items():
            read = {node.id for node in ast.walk(tree) if isinstance(node, ast.Name)}
            for part in tree.body:
                if isinstance(part, ast.ImportFrom):
                    self.assertLessEqual({alias.name for alias in part.names}, read, name)

    def test_functions(self):
        for where, node in nodes(ast.FunctionDef, ast.ClassDef):
            self.assertEqual(node.decorator_list, [], where)
            self.assertTrue(ast.get_docstring(node) or node.name in DOUBLES, where)

    def test_names_that_are_read_are_known(self):
        for name, tree in TREES.items():
            bound = {node.id for node in ast.walk(tree) if isinstance(node, ast.Name) and isinstance(node.ctx, ast.Store)}
            bound |= {node.arg for node in ast.walk(tree) if isinstance(node, ast.arg)}
            bound |= {node.name for node in ast.walk(tree) if isinstance(node, (ast.FunctionDef, ast.ClassDef, ast.alias))}
            for node in ast.walk(tree):
                if isinstance(node, ast.Name) and isinstance(node.ctx, ast.Load):
                    self.assertIn(node.id, bound | BUILTINS, name)

    def test_super_stands_in_calls_of_the_method_that_it_stands_in(self):
        told = []
        for where, function in nodes(ast.FunctionDef):
            for node in ast.walk(function):
                if isinstance(node, ast.Call) and isinstance(node.func, ast.Attribute) and isinstance(node.func.value, ast.Call):
                    inner = node.func.value
                    if isinstance(inner.func, ast.Name) and inner.func.id == "super":
                        self.assertEqual((inner.args, node.func.attr), ([], function.name), where)
                        told.append(inner.func)
        for where, node in nodes(ast.Name):
            self.assertTrue(node.id != "super" or node in told, where)

    def test_no_method_is_read_off_a_class(self):
        classes = {one.name for _, one in nodes(ast.ClassDef)}
        for where, node in nodes(ast.Attribute):
            self.assertFalse(isinstance(node.value, ast.Name) and node.value.id in classes, where)

    def test_is_stands_beside_none_true_and_false(self):
        for where, node in nodes(ast.Compare):
            if any(isinstance(op, (ast.Is, ast.IsNot)) for op in node.ops):
                self.assertEqual(len(node.ops), 1, where)
                self.assertIsInstance(node.comparators[0], ast.Constant, where)

    def test_own_errors_are_raised_on_the_spot(self):
        for where, node in nodes(ast.Raise):
            if node.exc is not None:
                self.assertIsInstance(node.exc, ast.Call, where)
                self.assertTrue(node.exc.func.id.startswith(("Bad", "Not")), where)
        for where, node in nodes(ast.ExceptHandler):
            self.assertIsInstance(node.type, ast.Name, where)
            self.assertTrue(node.type.id.startswith(("Bad", "Not", "Key")), where)

"""The form of the package's own files, as far as it can be seen by a walk through them."""

import ast
import builtins
import pathlib
import re
import unittest

FOLDER = pathlib.Path(__file__).resolve().parent.parent / "quartersheet"

OWN_NAMES = """len range enumerate zip min max sum abs sorted reversed int str bool list tuple dict set isinstance
ord repr any all divmod Exception ValueError TypeError KeyError IndexError LookupError ZeroDivisionError
ArithmeticError OverflowError RuntimeError NotImplementedError""".split()
OWN_METHODS = """append clear copy count endswith extend find get index insert isalnum isalpha isdigit islower isspace
isupper items join keys ljust lower lstrip partition pop remove replace reverse rfind rjust rpartition rsplit rstrip
setdefault split splitlines startswith strip update upper values zfill bit_length""".split()
WORDS = """type typing typing_extensions enum Enum IntEnum StrEnum Flag IntFlag Generic Protocol ABC ABCMeta namedtuple
NamedTuple TypedDict TYPE_CHECKING abstractmethod""".split()
WITHIN_WORDS = ["dataclass", "overload", "contextmanager"]
UNUSED = """register mro elements open input version_info with_traceback add_note attrgetter breakpoint builtins
compile copyright credits delattr dir eval exec exit gc getattr globals hasattr help id importlib license locals
methodcaller os quit setattr super type vars sys chr frozenset print""".split()
AT_TOP = (ast.ImportFrom, ast.FunctionDef, ast.ClassDef, ast.Assign)
OUT = (
    ast.With, ast.Match, ast.Delete, ast.Global, ast.Nonlocal, ast.Assert, ast.Yield, ast.YieldFrom, ast.Await,
    ast.AsyncFunctionDef, ast.AsyncFor, ast.AsyncWith, ast.SetComp, ast.DictComp, ast.GeneratorExp, ast.NamedExpr,
    ast.Starred, ast.Import, ast.AnnAssign, ast.Div, ast.MatMult,
)


def files():
    return sorted(path for path in FOLDER.rglob("*") if path.is_file() and "__pycache__" not in path.parts)


def bound_at_top(tree):
    names = []
    for node in tree.body:
        if isinstance(node, (ast.FunctionDef, ast.ClassDef)):
            names.append(node.name)
        if isinstance(node, ast.Assign):
            names.extend(target.id for target in node.targets)
    return names


def imported(tree):
    return [name.name for node in tree.body if isinstance(node, ast.ImportFrom) for name in node.names]


def drawn_from(path):
    tree = ast.parse(path.read_text(encoding="utf-8"))
    return [node.module.split(".")[1] for node in tree.body if isinstance(node, ast.ImportFrom)]


class Form(unittest.TestCase):
    def each(self):
        for path in files():
            text = path.read_text(encoding="utf-8")
            yield path, text, ast.parse(text)

    def nodes(self, kind):
        for path, text, tree in self.each():
            for node in ast.walk(tree):
                if isinstance(node, kind):
                    yield path, node

    def test_files(self):
        self.assertIn(FOLDER / "__init__.py", files())
        for path in files():
            self.assertRegex(path.name, r"^[a-z0-9_]+\.py$")

    def test_signs_and_size(self):
        for path, text, tree in self.each():
            self.assertRegex(text, r"\A[ -~\n]*\Z")
            self.assertLessEqual(len(text.splitlines()), 400)
            self.assertLessEqual(max(len(row) for row in text.splitlines()), 120)
        for path, node in self.nodes(ast.FunctionDef):
            self.assertLessEqual(node.end_lineno - node.lineno + 1, 40, node.name)

    def test_words(self):
        for path, text, tree in self.each():
            self.assertEqual([word for word in re.findall(r"\w+", text) if word in WORDS], [])
            self.assertEqual([word for word in WITHIN_WORDS if word in text], [])

    def test_top_of_a_file(self):
        for path, text, tree in self.each():
            self.assertIsNotNone(ast.get_docstring(tree))
            for node in tree.body[1:]:
                self.assertIsInstance(node, AT_TOP)
            names = bound_at_top(tree)
            self.assertEqual(len(names), len(set(names)))

    def test_imports_come_from_the_file_that_defines_them(self):
        for path, node in self.nodes(ast.ImportFrom):
            self.assertEqual(node.level, 0)
            self.assertTrue(node.module.startswith("quartersheet."), node.module)
            source = FOLDER / (node.module.split(".")[1] + ".py")
            defined = bound_at_top(ast.parse(source.read_text(encoding="utf-8")))
            for name in node.names:
                self.assertIsNone(name.asname)
                self.assertIn(name.name, defined)

    def test_no_two_files_draw_from_one_another(self):
        left = {path.stem: drawn_from(path) for path in files()}
        while left:
            free = [name for name in left if not set(left[name]) & set(left)]
            self.assertNotEqual(free, [], left)
            for name in free:
                del left[name]

    def test_no_parameter_and_no_local_bears_the_name_of_an_import_or_class(self):
        for path, text, tree in self.each():
            taken = imported(tree) + [node.name for node in tree.body if isinstance(node, ast.ClassDef)]
            for node in ast.walk(tree):
                if isinstance(node, ast.arg):
                    self.assertNotIn(node.arg, taken)
                if isinstance(node, ast.Name) and isinstance(node.ctx, ast.Store):
                    self.assertNotIn(node.id, taken)

    def test_lists_and_dicts_at_the_top(self):
        for path, text, tree in self.each():
            for node in tree.body:
                if isinstance(node, ast.Assign) and isinstance(node.value, (ast.List, ast.Dict)):
                    inner = [part for part in ast.walk(node.value) if isinstance(part, (ast.List, ast.Dict))]
                    self.assertEqual(inner, [node.value])

    def test_comprehensions_and_annotations(self):
        for path, node in self.nodes(ast.ListComp):
            self.assertEqual(len(node.generators), 1)
            self.assertLessEqual(len(node.generators[0].ifs), 1)
        for path, node in self.nodes(ast.arg):
            self.assertIsNone(node.annotation)
        for path, node in self.nodes(ast.FunctionDef):
            self.assertIsNone(node.returns)
            for default in node.args.defaults:
                self.assertIsInstance(default, ast.Constant)

    def test_nothing_outside_the_small_language(self):
        for path, node in self.nodes(OUT):
            self.fail(f"{path.name}:{node.lineno}: {node}")

    def test_functions_and_classes(self):
        for path, node in self.nodes((ast.FunctionDef, ast.ClassDef)):
            self.assertEqual(node.decorator_list, [])
            self.assertFalse(node.name.startswith("_") and node.name != "__init__", node.name)
        for path, node in self.nodes(ast.arguments):
            self.assertEqual((node.vararg, node.kwarg, node.kwonlyargs, node.posonlyargs), (None, None, [], []))
        for path, node in self.nodes(ast.ClassDef):
            self.assertLessEqual(len(node.bases), 1)
            for part in node.body:
                self.assertIsInstance(part, (ast.FunctionDef, ast.Pass))

    def test_names(self):
        bound = [(path, node.arg) for path, node in self.nodes(ast.arg)]
        for path, node in self.nodes(ast.Name):
            self.assertNotIn(node.id, UNUSED)
            if isinstance(node.ctx, ast.Store):
                bound.append((path, node.id))
            elif hasattr(builtins, node.id):
                self.assertIn(node.id, OWN_NAMES)
        for path, name in bound:
            self.assertRegex(name, r"^[A-Za-z][A-Za-z0-9_]*$")
            self.assertFalse(hasattr(builtins, name), (path.name, name))

    def test_methods(self):
        own = [node.name for path, node in self.nodes(ast.FunctionDef)]
        for path, node in self.nodes(ast.Call):
            if isinstance(node.func, ast.Attribute):
                self.assertIn(node.func.attr, OWN_METHODS + own)

    def test_operators_and_texts(self):
        for path, node in self.nodes(ast.Compare):
            for sort, right in zip(node.ops, node.comparators):
                if isinstance(sort, (ast.Is, ast.IsNot)):
                    self.assertTrue(isinstance(right, ast.Constant) and right.value in (None, True, False))
        for path, node in self.nodes(ast.BinOp):
            if isinstance(node.op, ast.Pow):
                self.assertIsInstance(node.right, ast.Constant)
        for path, node in self.nodes(ast.Constant):
            self.assertNotIsInstance(node.value, (float, bytes, complex))
            if isinstance(node.value, str):
                self.assertNotIn("%", node.value)
        for path, node in self.nodes((ast.For, ast.While)):
            self.assertEqual(node.orelse, [])
        for path, node in self.nodes(ast.Assign):
            self.assertEqual(len(node.targets), 1)

"""The rules of the language that a look at the text can check, for every file of the package."""

import ast
import builtins
import functools
import io
import pathlib
import re
import tokenize
import unittest
import warnings

PACKAGE = pathlib.Path(__file__).resolve().parent.parent / "evennets"
LIBRARY = {"math": {"gcd", "lcm", "isqrt", "comb", "perm", "factorial"}, "itertools": {
    "product", "combinations", "permutations", "chain", "accumulate", "pairwise", "islice", "zip_longest"}}
BUILTINS = set(
    "len range enumerate zip min max sum abs sorted reversed int str bool bytes list tuple dict set isinstance ord repr "
    "any all divmod ValueError KeyError ZeroDivisionError".split())
METHODS = set(
    "append clear copy count endswith extend find get index insert isalnum isalpha isdigit islower isspace isupper items "
    "join keys ljust lower lstrip partition pop remove replace reverse rfind rjust rpartition rsplit rstrip setdefault "
    "split splitlines startswith strip update upper values zfill bit_length add discard".split())
BARRED = set(
    "mro elements open input law version_info with_traceback add_note register attrgetter breakpoint builtins compile "
    "copyright credits delattr dir eval exec exit gc getattr globals hasattr help id importlib license locals "
    "methodcaller os quit setattr super type vars sys hash next iter map filter round format print".split())
WORDS = re.compile(
    r"\b(type|typing|typing_extensions|enum|Enum|IntEnum|StrEnum|Flag|IntFlag|Generic|Protocol|ABC|ABCMeta|namedtuple|"
    r"NamedTuple|TypedDict|TYPE_CHECKING|abstractmethod)\b|dataclass|overload|contextmanager|_wall|_WallAttr")
NEVER = (
    ast.GeneratorExp, ast.Lambda, ast.Yield, ast.YieldFrom, ast.Global, ast.Nonlocal, ast.AsyncFunctionDef, ast.Await,
    ast.With, ast.Try, ast.Match, ast.JoinedStr, ast.Div, ast.MatMult, ast.NamedExpr, ast.Starred, ast.AnnAssign, ast.Import)
CALLED_AT_ONCE = ("zip", "enumerate", "reversed", "range")
AROUND = ("list", "tuple", "dict", "sorted", "sum", "any", "all", "enumerate", "zip", "min", "max")


def files():
    return sorted(PACKAGE.rglob("*.py"))


def parts(node, kind):
    return [part for part in ast.walk(node) if isinstance(part, kind)]


def defined(tree):
    """The names of the functions, classes and values that a file defines."""
    names = {node.name for node in tree.body if isinstance(node, (ast.FunctionDef, ast.ClassDef))}
    return names | {node.targets[0].id for node in tree.body if isinstance(node, ast.Assign)}


def is_call(node, names):
    return isinstance(node, ast.Call) and isinstance(node.func, ast.Name) and node.func.id in names


def in_each_file(check):
    """The test that makes a check, of a file's name, text and tree, in each file of the package."""
    @functools.wraps(check)
    def test(self):
        for path in files():
            text = path.read_text(encoding="utf-8")
            with self.subTest(path.name):
                check(self, path.name, text, ast.parse(text))
    return test


class Language(unittest.TestCase):
    """Stricter than the rules here and there: what the rules let and the program needs may be let here, too."""

    def test_folder(self):
        for path in PACKAGE.rglob("*"):
            if "__pycache__" not in path.parts:
                self.assertEqual(path.suffix, ".py", path)
                self.assertRegex(path.stem, r"\A([a-z][a-z0-9_]*|__init__|__main__)\Z")
        self.assertIn(PACKAGE / "__init__.py", files())

    @in_each_file
    def test_sizes_and_characters(self, name, text, tree):
        lines = text.split("\n")
        self.assertLessEqual(len(lines), 399)
        self.assertLessEqual(max(map(len, lines)), 120)
        self.assertRegex(text, r"\A[ -~\n]*\Z")
        for part in parts(tree, ast.FunctionDef):
            self.assertLessEqual(part.end_lineno - part.lineno + 1, 40, part.name)

    @in_each_file
    def test_no_warnings(self, name, text, tree):
        with warnings.catch_warnings():
            warnings.simplefilter("error")
            compile(text, name, "exec")

    @in_each_file
    def test_words(self, name, text, tree):
        docstrings = {
            node.body[0].value.lineno for node in parts(tree, (ast.Module, ast.ClassDef, ast.FunctionDef))
            if ast.get_docstring(node) is not None}
        for token in tokenize.generate_tokens(io.StringIO(text).readline):
            if token.type != tokenize.COMMENT and token.start[0] not in docstrings:
                self.assertNotRegex(token.string, WORDS)
            if token.type == tokenize.STRING and token.start[0] not in docstrings:
                self.assertNotIn("%", token.string)

    @in_each_file
    def test_module_level(self, name, text, tree):
        for node in tree.body[1:]:
            self.assertIsInstance(node, (ast.ImportFrom, ast.FunctionDef, ast.ClassDef, ast.Assign))
            if isinstance(node, ast.Assign):
                self.assertEqual(parts(node, (ast.Call, ast.ListComp, ast.DictComp, ast.SetComp)), [])
        self.assertIsNotNone(ast.get_docstring(tree))

    @in_each_file
    def test_imports_name_the_file_that_defines(self, name, text, tree):
        known = {f"evennets.{path.stem}": defined(ast.parse(path.read_text())) for path in files()}
        known.update(LIBRARY)
        for node in parts(tree, ast.ImportFrom):
            self.assertIn(node, tree.body)
            self.assertEqual(node.level, 0)
            for word in node.names:
                self.assertIsNone(word.asname)
                self.assertIn(word.name, known[node.module])

    def test_imports_go_one_way(self):
        wanted = {
            path.stem: {node.module.split(".")[-1] for node in parts(ast.parse(path.read_text()), ast.ImportFrom)}
            for path in files()}
        for start in wanted:
            reached, left = set(), list(wanted[start])
            while left:
                name = left.pop()
                if name in wanted and name not in reached:
                    reached.add(name)
                    left.extend(wanted[name])
            self.assertNotIn(start, reached)

    @in_each_file
    def test_statements_and_expressions(self, name, text, tree):
        self.assertEqual([ast.dump(part) for part in parts(tree, NEVER)], [])
        for node in parts(tree, (ast.FunctionDef, ast.ClassDef)):
            self.assertEqual(node.decorator_list, [])
        for node in parts(tree, ast.Constant):
            self.assertNotIsInstance(node.value, (float, complex))
        for node in parts(tree, ast.Compare):
            for sign, right in zip(node.ops, node.comparators):
                if isinstance(sign, (ast.Is, ast.IsNot)):
                    self.assertIsInstance(right, ast.Constant)
        for node in parts(tree, ast.BinOp):
            if isinstance(node.op, ast.Pow):
                self.assertIsInstance(node.right, ast.Constant)

    @in_each_file
    def test_names(self, name, text, tree):
        top = defined(tree) | {word.name for node in parts(tree, ast.ImportFrom) for word in node.names}
        bound = {node.arg for node in parts(tree, ast.arg)}
        for function in parts(tree, ast.FunctionDef):
            bound |= {node.id for node in parts(function, ast.Name) if isinstance(node.ctx, ast.Store)}
        self.assertEqual(bound & top, set())
        self.assertEqual((bound | top) & (BUILTINS | BARRED | set(dir(builtins)) - {"_"}), set())
        for node in parts(tree, ast.Name):
            self.assertNotIn(node.id, BARRED)
            if isinstance(node.ctx, ast.Load):
                self.assertIn(node.id, BUILTINS | top | bound)
                self.assertNotEqual(node.id, "_")

    @in_each_file
    def test_calls(self, name, text, tree):
        own = {node.name for node in parts(tree, ast.FunctionDef)}
        for node in parts(tree, ast.Call):
            if isinstance(node.func, ast.Attribute):
                self.assertIn(node.func.attr, METHODS | own)
            if is_call(node, BUILTINS):
                self.assertLessEqual({word.arg for word in node.keywords}, {"key", "reverse", "default", "start"})

    @in_each_file
    def test_iterated_at_once(self, name, text, tree):
        heads = [node.iter for node in parts(tree, (ast.For, ast.comprehension))]
        heads += [node.args[0] for node in parts(tree, ast.Call) if is_call(node, AROUND) and node.args]
        for node in parts(tree, ast.Call):
            if is_call(node, CALLED_AT_ONCE):
                self.assertIn(node, heads, ast.dump(node))


if __name__ == "__main__":
    unittest.main()

"""The form of the package's own files: the rules of the language part that can be seen row by row."""

import ast
import builtins
import pathlib
import re
import unittest

PACKAGE = pathlib.Path(__file__).resolve().parent.parent / "strataproofs"

BUILT_IN = set("""
    len range enumerate zip min max sum abs sorted reversed int str bool list tuple dict set frozenset isinstance ord
    repr any all divmod Exception ValueError TypeError KeyError IndexError LookupError ZeroDivisionError ArithmeticError
    OverflowError RuntimeError NotImplementedError AttributeError StopIteration
""".split())
METHODS = set("""
    append clear copy count endswith extend find get index insert isalnum isalpha isdigit islower isspace isupper items
    join keys ljust lower lstrip partition pop remove replace reverse rfind rjust rpartition rsplit rstrip setdefault
    split splitlines startswith strip update upper values zfill bit_length
""".split())
NOT_AS_VALUES = set("items keys values pop update append clear extend insert remove reverse setdefault sort args".split())
WORDS = set("""
    type typing typing_extensions enum Enum IntEnum StrEnum Flag IntFlag Generic Protocol ABC ABCMeta namedtuple
    NamedTuple TypedDict TYPE_CHECKING abstractmethod
""".split())
LEFT_OUT = (
    ast.With, ast.Match, ast.Delete, ast.Global, ast.Nonlocal, ast.Assert, ast.Yield, ast.YieldFrom, ast.Await,
    ast.AsyncFunctionDef, ast.SetComp, ast.DictComp, ast.GeneratorExp, ast.NamedExpr, ast.Starred, ast.Div, ast.Import,
    ast.AnnAssign,
)


def files():
    return sorted(PACKAGE.rglob("*.py"))


def nodes():
    for path in files():
        for node in ast.walk(ast.parse(path.read_text())):
            yield path, node


class FileTest(unittest.TestCase):

    def test_what_lies_in_the_package(self):
        others = [path for path in PACKAGE.rglob("*") if path.suffix != ".py" and "__pycache__" not in path.parts]
        self.assertEqual(others, [])
        for path in files():
            self.assertRegex(path.name, r"^(__init__|__main__|[a-z][a-z0-9_]*)\.py$")
            self.assertNotRegex(path.name, r"^tests?")

    def test_sizes_and_signs(self):
        for path in files():
            text = path.read_text()
            self.assertLessEqual(len(text.splitlines()), 399, path)
            self.assertLessEqual(max(len(line) for line in text.splitlines()), 120, path)
            self.assertRegex(text, r"\A[ -~\n]*\Z", path)

    def test_words_that_stand_nowhere(self):
        for path in files():
            words = set(re.findall(r"\w+", path.read_text()))
            self.assertEqual(words & WORDS, set(), path)

    def test_each_file_has_a_docstring(self):
        for path in files():
            self.assertTrue(ast.get_docstring(ast.parse(path.read_text())), path)

    def test_no_two_files_draw_from_one_another(self):
        drawn = {path.stem: set() for path in files()}
        for path, node in nodes():
            if isinstance(node, ast.ImportFrom):
                drawn[path.stem].add(node.module.rpartition(".")[2])
        while drawn:
            free = [name for name in drawn if not drawn[name] & set(drawn)]
            self.assertTrue(free, drawn)
            for name in free:
                del drawn[name]


class NodeTest(unittest.TestCase):

    def test_imports(self):
        for path, node in nodes():
            if isinstance(node, ast.ImportFrom):
                self.assertEqual(node.level, 0, path)
                self.assertTrue(node.module.startswith("strataproofs."), path)
                defined = ast.parse((PACKAGE / (node.module.partition(".")[2] + ".py")).read_text()).body
                here = {part.name for part in defined if isinstance(part, (ast.FunctionDef, ast.ClassDef))}
                here |= {part.targets[0].id for part in defined if isinstance(part, ast.Assign)}
                self.assertLessEqual({name.name for name in node.names}, here, path)

    def test_what_is_left_out_of_the_language(self):
        for path, node in nodes():
            self.assertNotIsInstance(node, LEFT_OUT, path)
            if isinstance(node, ast.Constant):
                self.assertNotIsInstance(node.value, (float, bytes, complex), path)
            if isinstance(node, (ast.For, ast.While)):
                self.assertEqual(node.orelse, [], path)
            if isinstance(node, ast.Assign):
                self.assertEqual(len(node.targets), 1, path)
            if isinstance(node, ast.ListComp):
                self.assertEqual(len(node.generators), 1, path)
                self.assertLessEqual(len(node.generators[0].ifs), 1, path)

    def test_functions(self):
        for path, node in nodes():
            if isinstance(node, ast.FunctionDef):
                self.assertLessEqual(node.end_lineno - node.lineno + 1, 40, (path, node.name))
                self.assertEqual(node.decorator_list, [], (path, node.name))
                self.assertIsNone(node.args.vararg or node.args.kwarg, (path, node.name))
                self.assertEqual(node.args.kwonlyargs + node.args.posonlyargs, [], (path, node.name))

    def test_names(self):
        for path in files():
            tree = ast.parse(path.read_text())
            bound = {node.id for node in ast.walk(tree) if isinstance(node, ast.Name) and isinstance(node.ctx, ast.Store)}
            bound |= {node.arg for node in ast.walk(tree) if isinstance(node, ast.arg)}
            tops = {name.name for node in ast.walk(tree) if isinstance(node, ast.ImportFrom) for name in node.names}
            tops |= {node.name for node in tree.body if isinstance(node, (ast.FunctionDef, ast.ClassDef))}
            caught = {node.name for node in ast.walk(tree) if isinstance(node, ast.ExceptHandler)}
            self.assertEqual(bound & (tops | set(dir(builtins))), set(), path)
            self.assertEqual([name for name in bound if name.startswith("_")], [], path)
            read = {node.id for node in ast.walk(tree) if isinstance(node, ast.Name) and isinstance(node.ctx, ast.Load)}
            self.assertLessEqual(read, bound | tops | caught | BUILT_IN, path)

    def test_methods_and_values(self):
        methods, values = set(), set()
        for path, node in nodes():
            if isinstance(node, ast.ClassDef):
                methods |= {part.name for part in node.body if isinstance(part, ast.FunctionDef)}
            if isinstance(node, ast.Attribute) and isinstance(node.ctx, ast.Store):
                values.add(node.attr)
        self.assertEqual(methods & values, set())
        self.assertEqual(values & NOT_AS_VALUES, set())
        for path, node in nodes():
            if isinstance(node, ast.Call) and isinstance(node.func, ast.Attribute):
                self.assertIn(node.func.attr, methods | METHODS, path)


if __name__ == "__main__":
    unittest.main()

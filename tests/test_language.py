"""The package keeps to its part of Python, as far as a test can see it."""

import ast
import builtins
import pathlib
import re
import unittest

PACKAGE = pathlib.Path(__file__).resolve().parent.parent / "chargingcars"
FILES = sorted(PACKAGE.glob("*.py"))

OWN_NAMES = set("""len range enumerate zip min max sum abs sorted reversed int str bool list tuple dict set frozenset
    isinstance ord repr any all divmod KeyError ZeroDivisionError StopIteration ValueError LookupError IndexError
    Exception""".split())
METHODS = set("""append clear copy count endswith extend find get index insert isalnum isalpha isdigit islower isspace
    isupper items join keys ljust lower lstrip partition pop remove replace reverse rfind rjust rpartition rsplit rstrip
    setdefault split splitlines startswith strip update upper values zfill bit_length""".split())
WORDS_NOWHERE = set("""type typing typing_extensions enum Enum IntEnum StrEnum Flag IntFlag Generic Protocol ABC ABCMeta
    namedtuple NamedTuple TypedDict TYPE_CHECKING abstractmethod""".split())
NAMES_NOWHERE = set("register mro elements open input version_info with_traceback add_note format format_map".split())
NODES = (ast.Module, ast.FunctionDef, ast.ClassDef, ast.ImportFrom, ast.alias, ast.arguments, ast.arg, ast.Assign, ast.If,
         ast.While, ast.For, ast.Return, ast.Break, ast.Continue, ast.Pass, ast.Raise, ast.Expr, ast.Constant, ast.Name,
         ast.Attribute, ast.Subscript, ast.Slice, ast.List, ast.Tuple, ast.Dict, ast.Call, ast.keyword, ast.Compare,
         ast.BoolOp, ast.UnaryOp, ast.BinOp, ast.IfExp, ast.ListComp, ast.comprehension, ast.Lambda, ast.expr_context,
         ast.operator, ast.unaryop, ast.boolop, ast.cmpop)


def tree_of(file):
    return ast.parse(file.read_text())


def attributes_of_own_values():
    own = (str, int, list, dict, set, bytes)
    return {name for kind in own for name in dir(kind)}


class Language(unittest.TestCase):
    def test_the_folder_has_plain_files_alone(self):
        for path in PACKAGE.iterdir():
            if path.name != "__pycache__":
                self.assertRegex(path.name, r"\A([a-z][a-z0-9_]*|__init__)\.py\Z")
                self.assertNotIn(path.stem, dir(builtins))

    def test_sizes_and_signs(self):
        for file in FILES:
            text = file.read_bytes()
            self.assertTrue(all(byte == 10 or 32 <= byte <= 126 for byte in text), file)
            lines = text.decode().split("\n")
            self.assertLessEqual(len(lines), 400, file)
            self.assertLessEqual(max(len(line) for line in lines), 120, file)
            for node in ast.walk(tree_of(file)):
                if isinstance(node, ast.FunctionDef):
                    self.assertLessEqual(node.end_lineno - node.lineno + 1, 40, node.name)

    def test_words_that_stand_nowhere(self):
        for file in FILES:
            text = file.read_text()
            self.assertEqual(set(re.findall(r"\w+", text)) & (WORDS_NOWHERE | NAMES_NOWHERE), set(), file)
            self.assertIsNone(re.search("dataclass|overload|contextmanager", text), file)

    def test_statements_and_expressions(self):
        for file in FILES:
            for node in ast.walk(tree_of(file)):
                place = (file.name, getattr(node, "lineno", 0), type(node).__name__)
                self.assertIsInstance(node, NODES, place)
                self.assertNotIsInstance(node, (ast.Div, ast.MatMult), place)
                if isinstance(node, ast.Constant):
                    self.assertIsInstance(node.value, (int, str, type(None)), place)
                if isinstance(node, ast.Assign):
                    self.assertEqual(len(node.targets), 1, place)
                    self.assertNotIsInstance(node.targets[0], (ast.Tuple, ast.List), place)
                if isinstance(node, (ast.For, ast.While)):
                    self.assertEqual(node.orelse, [], place)
                if isinstance(node, ast.ListComp):
                    self.assertEqual(len(node.generators), 1, place)
                    self.assertLessEqual(len(node.generators[0].ifs), 1, place)
                if isinstance(node, (ast.FunctionDef, ast.ClassDef)):
                    self.assertEqual(node.decorator_list, [], place)
                if isinstance(node, ast.Compare) and isinstance(node.ops[0], (ast.Is, ast.IsNot)):
                    self.assertIsInstance(node.comparators[0], ast.Constant, place)
                if isinstance(node, ast.arguments):
                    self.assertIsNone(node.vararg or node.kwarg, place)
                    self.assertEqual(node.kwonlyargs + node.posonlyargs, [], place)

    def test_imports(self):
        draws = {}
        for file in FILES:
            drawn = set()
            for node in ast.walk(tree_of(file)):
                if isinstance(node, ast.ImportFrom):
                    self.assertRegex(node.module, r"\Achargingcars\.[a-z]+\Z")
                    other = PACKAGE / (node.module.split(".")[1] + ".py")
                    drawn.add(other.stem)
                    for alias in node.names:
                        self.assertIn(alias.name, top_names(tree_of(other)))
                        self.assertIsNone(alias.asname)
            draws[file.stem] = drawn
        while draws:
            free = [name for name in draws if not draws[name] & set(draws)]
            self.assertTrue(free, "files draw from one another")
            draws = {name: draws[name] for name in draws if name not in free}

    def test_names(self):
        for file in FILES:
            tree = tree_of(file)
            top = top_names(tree)
            self.assertEqual(len(top), len(set(top)), file)
            taken = {alias.name for node in tree.body if isinstance(node, ast.ImportFrom) for alias in node.names}
            taken |= {node.name for node in tree.body if isinstance(node, ast.ClassDef)}
            for node in ast.walk(tree):
                place = (file.name, getattr(node, "lineno", 0))
                if isinstance(node, ast.Name) and node.id in dir(builtins):
                    self.assertIn(node.id, OWN_NAMES, place)
                    self.assertIsInstance(node.ctx, ast.Load, place)
                bound = node.arg if isinstance(node, ast.arg) else ""
                if isinstance(node, ast.Name) and isinstance(node.ctx, ast.Store):
                    bound = node.id
                self.assertNotIn(bound, taken, place)
                self.assertNotIn(bound, dir(builtins), place)
                self.assertFalse(bound.startswith("_"), place)

    def test_methods_and_values(self):
        own = attributes_of_own_values()
        for file in FILES:
            for node in ast.walk(tree_of(file)):
                if isinstance(node, ast.Call) and isinstance(node.func, ast.Attribute):
                    self.assertIn(node.func.attr, METHODS, (file.name, node.lineno))
                elif isinstance(node, ast.Attribute) and isinstance(node.ctx, ast.Store):
                    self.assertNotIn(node.attr, own, (file.name, node.lineno))


def top_names(tree):
    names = []
    for node in tree.body:
        if isinstance(node, (ast.FunctionDef, ast.ClassDef)):
            names.append(node.name)
        if isinstance(node, ast.Assign):
            names.append(node.targets[0].id)
    return names


if __name__ == "__main__":
    unittest.main()

"""The form of the package's files: those of the language's rules that a look at the text can tell."""

import ast
import builtins
import pathlib
import re
import unittest

PACKAGE = pathlib.Path(__file__).resolve().parent.parent / "keptapart"
FILES = sorted(path for path in PACKAGE.rglob("*") if path.is_file() and "__pycache__" not in path.parts)
NOT_USED = (
    ast.With, ast.Match, ast.Delete, ast.Global, ast.Nonlocal, ast.Assert, ast.Yield, ast.YieldFrom, ast.Await,
    ast.AsyncFor, ast.AsyncWith, ast.AsyncFunctionDef, ast.Import, ast.NamedExpr, ast.Starred, ast.SetComp,
    ast.DictComp, ast.GeneratorExp, ast.Div, ast.Pow, ast.AnnAssign, ast.Set,
)
OWN_NAMES = """
    len range enumerate zip min max sum abs sorted reversed int str bool list tuple dict isinstance ord repr any all
    divmod ValueError KeyError
""".split()
NOWHERE = re.compile(
    r"\b(type|typing|typing_extensions|enum|Enum|IntEnum|StrEnum|Flag|IntFlag|Generic|Protocol|ABC|ABCMeta"
    r"|namedtuple|NamedTuple|TypedDict|TYPE_CHECKING|abstractmethod)\b|dataclass|overload|contextmanager"
)
PYTHONS_OWN = dir(builtins)
METHODS = """
    append clear copy count endswith extend find get index insert isalnum isalpha isdigit islower isspace isupper items
    join keys ljust lower lstrip partition pop remove replace reverse rfind rjust rpartition rsplit rstrip setdefault
    split splitlines startswith strip update upper values zfill bit_length
""".split()
WALKED = "zip enumerate reversed range items keys values".split()
WALKERS = "list tuple dict sorted sum any all enumerate zip min max".split()


def called_name(node):
    """The name by which a call is made; nothing if it's no call by a name."""
    if not isinstance(node, ast.Call):
        return None
    return getattr(node.func, "id", None) or getattr(node.func, "attr", None)


def walked_on_the_spot(tree):
    spots = [node.iter for node in ast.walk(tree) if isinstance(node, (ast.For, ast.comprehension))]
    spots += [node.args[0] for node in ast.walk(tree) if called_name(node) in WALKERS and node.args]
    return spots


class Form(unittest.TestCase):
    def each_file(self):
        texts = [path.read_bytes().decode("ascii") for path in FILES]
        return [(text, ast.parse(text)) for text in texts]

    def test_only_python_files(self):
        self.assertTrue(FILES)
        for path in FILES:
            self.assertRegex(path.name, r"^(__init__|[a-z][a-z0-9_]*)\.py$")

    def test_signs_and_sizes(self):
        for text, tree in self.each_file():
            self.assertRegex(text, r"\A[ -~\n]*\Z")
            self.assertIsNone(NOWHERE.search(text))
            rows = text.split("\n")
            self.assertLessEqual(len(rows), 400)
            self.assertLessEqual(max(len(row) for row in rows), 120)
            for node in ast.walk(tree):
                if isinstance(node, ast.FunctionDef):
                    self.assertLessEqual(node.end_lineno - node.lineno + 1, 40, node.name)
                    self.assertEqual(node.decorator_list, [])

    def test_parts_of_the_language(self):
        for text, tree in self.each_file():
            for node in ast.walk(tree):
                self.assertNotIsInstance(node, NOT_USED)
                if isinstance(node, ast.ImportFrom):
                    self.assertEqual((node.level, node.module.split(".")[0]), (0, "keptapart"))
                if isinstance(node, ast.Assign):
                    self.assertEqual(len(node.targets), 1)
                    self.assertNotIsInstance(node.targets[0], ast.Tuple)

    def test_names(self):
        for text, tree in self.each_file():
            for node in ast.walk(tree):
                if isinstance(node, ast.Name) and node.id in PYTHONS_OWN:
                    self.assertIn(node.id, OWN_NAMES)
                    self.assertIsInstance(node.ctx, ast.Load)
                if isinstance(node, ast.arg):
                    self.assertNotIn(node.arg, PYTHONS_OWN)
                if isinstance(node, (ast.Name, ast.arg, ast.Attribute)):
                    name = getattr(node, "id", None) or getattr(node, "arg", None) or node.attr
                    self.assertFalse(name.startswith("_"), name)

    def test_methods_and_values(self):
        trees = [tree for text, tree in self.each_file()]
        own = {node.attr for tree in trees for node in ast.walk(tree)
               if isinstance(node, ast.Attribute) and isinstance(node.ctx, ast.Store)}
        self.assertFalse(own & {*METHODS, *PYTHONS_OWN})
        for node in [node for tree in trees for node in ast.walk(tree)]:
            if isinstance(node, ast.Attribute):
                self.assertIn(node.attr, {*METHODS, *own})

    def test_walked_at_once(self):
        for text, tree in self.each_file():
            spots = walked_on_the_spot(tree)
            for node in ast.walk(tree):
                if called_name(node) in WALKED:
                    self.assertTrue(any(node is spot for spot in spots), node.lineno)

    def test_each_name_of_a_top_once(self):
        for text, tree in self.each_file():
            names = [node.name for node in tree.body if isinstance(node, (ast.FunctionDef, ast.ClassDef))]
            names += [node.targets[0].id for node in tree.body if isinstance(node, ast.Assign)]
            names += [name.name for node in tree.body if isinstance(node, ast.ImportFrom) for name in node.names]
            self.assertEqual(len(names), len(set(names)))

    def test_no_import_that_is_not_used(self):
        for text, tree in self.each_file():
            used = {node.id for node in ast.walk(tree) if isinstance(node, ast.Name)}
            for node in [node for node in tree.body if isinstance(node, ast.ImportFrom)]:
                self.assertTrue({name.name for name in node.names} <= used)


if __name__ == "__main__":
    unittest.main()

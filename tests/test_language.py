"""The rules of LANGUAGE.md that can be read off the package's files by a short look."""

import ast
import builtins
import pathlib
import re
import unittest

PACKAGE = pathlib.Path(__file__).resolve().parent.parent / "tilestore"
FILES = sorted(path for path in PACKAGE.rglob("*") if path.is_file() and "__pycache__" not in path.parts)

BUILT_IN = set("""len range enumerate zip min max sum abs sorted reversed int str bool list tuple dict set frozenset
    isinstance ord repr any all divmod""".split())
METHODS = set("""append clear copy count endswith extend find get index insert isalnum isalpha isdigit islower isspace
    isupper items join keys ljust lower lstrip partition pop remove replace reverse rfind rjust rpartition rsplit rstrip
    setdefault split splitlines startswith strip update upper values zfill bit_length""".split())
WORDS = re.compile(r"\b(type|typing|typing_extensions|enum|Enum|IntEnum|StrEnum|Flag|IntFlag|Generic|Protocol|ABC|ABCMeta"
                   r"|namedtuple|NamedTuple|TypedDict|TYPE_CHECKING|abstractmethod)\b|dataclass|overload|contextmanager")
NODES = (
    ast.Module, ast.ImportFrom, ast.alias, ast.FunctionDef, ast.arguments, ast.arg, ast.ClassDef, ast.Assign, ast.AugAssign,
    ast.If, ast.While, ast.For, ast.Return, ast.Break, ast.Continue, ast.Pass, ast.Expr, ast.Constant, ast.List, ast.Tuple,
    ast.Dict, ast.BinOp, ast.UnaryOp, ast.BoolOp, ast.Compare, ast.IfExp, ast.Call, ast.Attribute, ast.Subscript, ast.Slice,
    ast.ListComp, ast.comprehension, ast.Lambda, ast.JoinedStr, ast.FormattedValue, ast.Set, ast.Raise, ast.Try,
    ast.ExceptHandler, ast.Name, ast.expr_context, ast.operator, ast.unaryop, ast.boolop, ast.cmpop)


# Parsed once: the nodes are told apart by which object they are.
TREES = [(path, ast.parse(path.read_text())) for path in FILES]


def nodes(kind):
    return [(path, node) for path, tree in TREES for node in ast.walk(tree) if isinstance(node, kind)]


class Language(unittest.TestCase):

    def test_files(self):
        self.assertIn(PACKAGE / "pictures.py", FILES)
        for path in FILES:
            self.assertRegex(path.name, r"^[a-z_][a-z0-9_]*\.py$")

    def test_signs_and_sizes(self):
        for path in FILES:
            text = path.read_bytes().decode("ascii")
            self.assertRegex(text, r"^[ -~\n]*$")
            self.assertLessEqual(len(text.splitlines()), 400)
            self.assertLessEqual(max(len(line) for line in text.splitlines()), 120)
            self.assertIsNone(WORDS.search(text))
        for path, node in nodes(ast.FunctionDef):
            self.assertLessEqual(node.end_lineno - node.lineno + 1, 40, node.name)

    def test_forms(self):
        for path, node in nodes(ast.AST):
            self.assertIsInstance(node, NODES, f"{path} {ast.dump(node)}")
            self.assertNotIsInstance(node, (ast.Div, ast.Is, ast.IsNot, ast.MatMult))
        for path, node in nodes(ast.Constant):
            self.assertIn(type(node.value), (int, str, bool, type(None)))
        for path, node in nodes(ast.Assign):
            self.assertEqual(len(node.targets), 1)

    def test_imports(self):
        for path, node in nodes(ast.ImportFrom):
            self.assertEqual(node.level, 0)
            defined = ast.parse((PACKAGE.parent / (node.module.replace(".", "/") + ".py")).read_text()).body
            names = [part.name for part in defined if isinstance(part, (ast.FunctionDef, ast.ClassDef))]
            names += [part.targets[0].id for part in defined if isinstance(part, ast.Assign)]
            for name in node.names:
                self.assertIn(name.name, names)
                self.assertIsNone(name.asname)

    def test_names(self):
        for path, tree in TREES:
            bound = {node.id for node in ast.walk(tree) if isinstance(node, ast.Name) and isinstance(node.ctx, ast.Store)}
            bound |= {node.arg for node in ast.walk(tree) if isinstance(node, ast.arg)}
            defs = [node.name for node in tree.body if isinstance(node, (ast.FunctionDef, ast.ClassDef))]
            imports = [name.name for node in tree.body if isinstance(node, ast.ImportFrom) for name in node.names]
            used = {node.id for node in ast.walk(tree) if isinstance(node, ast.Name) and isinstance(node.ctx, ast.Load)}
            self.assertEqual(bound & set(dir(builtins)), set())
            self.assertEqual(bound & set(defs + imports), set())
            self.assertEqual(used - bound - set(defs + imports) - BUILT_IN, set())
            self.assertEqual(len(defs + imports), len(set(defs + imports)))

    def test_methods_and_values(self):
        own = {part.name for path, node in nodes(ast.ClassDef) for part in node.body}
        called = [node.func for path, node in nodes(ast.Call) if isinstance(node.func, ast.Attribute)]
        self.assertEqual({func.attr for func in called} - METHODS - own, set())
        values = {node.attr for path, node in nodes(ast.Attribute) if node not in called}
        self.assertEqual(values & own, set())


if __name__ == "__main__":
    unittest.main()

"""The form of the package's files, as far as it can be read off them one by one."""

import ast
import builtins
import pathlib
import re
import unittest

PACKAGE = pathlib.Path(__file__).resolve().parent.parent / "rootnumbers"

NODES = set("""
    Module FunctionDef arguments arg Assign AugAssign If While For Return Break Continue Pass Expr ImportFrom alias
    Name Load Store Constant List Tuple Dict Attribute Subscript Slice Call IfExp BoolOp And Or UnaryOp Not USub
    BinOp Add Sub Mult FloorDiv Mod Pow BitAnd BitOr BitXor LShift RShift keyword Lambda ListComp comprehension
    Compare Eq NotEq Lt LtE Gt GtE In NotIn Is IsNot
""".split())

BUILT_IN = set("""
    len range enumerate zip min max sum abs sorted reversed int str bool list tuple dict set isinstance ord repr
    any all divmod
""".split())

METHODS = set("""
    append clear copy count endswith extend find get index insert items join keys pop remove replace reverse
    setdefault split startswith strip update values bit_length
""".split())

WORDS = set("""
    type typing typing_extensions enum Enum IntEnum StrEnum Flag IntFlag Generic Protocol ABC ABCMeta namedtuple
    NamedTuple TypedDict TYPE_CHECKING abstractmethod
""".split())


def texts():
    return [(path.name, path.read_text(encoding="utf-8")) for path in sorted(PACKAGE.glob("*.py"))]


def nodes():
    return [(name, node) for name, text in texts() for node in ast.walk(ast.parse(text))]


class Form(unittest.TestCase):
    def test_files(self):
        found = [path.name for path in PACKAGE.iterdir() if path.name != "__pycache__"]
        self.assertIn("__init__.py", found)
        for name in found:
            self.assertRegex(name, r"^(__init__|[a-z][a-z0-9_]*)\.py$")

    def test_signs_words_and_sizes(self):
        for name, text in texts():
            self.assertRegex(text, r"\A[ -~\n]*\Z", name)
            self.assertLessEqual(text.count("\n"), 400, name)
            self.assertLessEqual(max(len(line) for line in text.split("\n")), 120, name)
            self.assertEqual(set(re.findall(r"\w+", text)) & WORDS, set(), name)
            self.assertNotRegex(text, "dataclass|overload|contextmanager")

    def test_nodes(self):
        for name, node in nodes():
            self.assertIn(type(node).__name__, NODES, name)
            if isinstance(node, ast.Assign):
                self.assertEqual(len(node.targets), 1, name)
            if isinstance(node, (ast.For, ast.While)):
                self.assertEqual(node.orelse, [], name)
            if isinstance(node, ast.FunctionDef):
                self.assertLessEqual(node.end_lineno - node.lineno + 1, 40, name)
                self.assertEqual(node.decorator_list, [], name)
            if isinstance(node, ast.Constant):
                self.assertIn(type(node.value), (int, str, bool, type(None)), name)
                self.assertNotIn("%", str(node.value), name)
            if isinstance(node, ast.BinOp) and isinstance(node.op, ast.Pow):
                self.assertIsInstance(node.right, ast.Constant, name)
            if isinstance(node, ast.Compare) and isinstance(node.ops[0], (ast.Is, ast.IsNot)):
                self.assertIn(ast.unparse(node.comparators[0]), ("None", "True", "False"), name)
            if isinstance(node, ast.ListComp):
                self.assertEqual(len(node.generators), 1, name)
                self.assertLessEqual(len(node.generators[0].ifs), 1, name)

    def test_names(self):
        own = set(dir(builtins))
        for name, node in nodes():
            if isinstance(node, ast.Name):
                self.assertRegex(node.id, "^[A-Za-z]", name)
                if node.id in own:
                    self.assertIn(node.id, BUILT_IN, name)
                    self.assertIsInstance(node.ctx, ast.Load, name)
            if isinstance(node, (ast.arg, ast.FunctionDef)):
                word = node.arg if isinstance(node, ast.arg) else node.name
                self.assertRegex(word, "^[A-Za-z]", name)
                self.assertNotIn(word, own, name)
            if isinstance(node, ast.Attribute):
                self.assertIn(node.attr, METHODS, name)

    def test_each_name_once(self):
        for name, text in texts():
            tree = ast.parse(text)
            drawn = [each.name for node in tree.body if isinstance(node, ast.ImportFrom) for each in node.names]
            defs = [node.name for node in tree.body if isinstance(node, ast.FunctionDef)]
            values = [node.targets[0].id for node in tree.body if isinstance(node, ast.Assign)]
            bound = drawn + defs + values
            self.assertEqual(sorted(bound), sorted(set(bound)), name)
            # What is bound within the defs may not be called like what the file draws, nor stand for a def of its own.
            inner = [node for each in tree.body if isinstance(each, ast.FunctionDef) for node in ast.walk(each)]
            words = {node.arg for node in inner if isinstance(node, ast.arg)}
            words |= {node.id for node in inner if isinstance(node, ast.Name) and isinstance(node.ctx, ast.Store)}
            self.assertEqual(words & set(bound), set(), name)
            used = {node.id for node in ast.walk(tree) if isinstance(node, ast.Name)}
            self.assertEqual(set(drawn) - used, set(), name)

    def test_imports(self):
        drawn = {}
        for name, node in nodes():
            if isinstance(node, ast.ImportFrom):
                self.assertRegex(node.module, r"^rootnumbers\.[a-z]\w*$", name)
                self.assertEqual(node.level, 0, name)
                self.assertTrue(all(each.name != "*" and each.asname is None for each in node.names), name)
                drawn.setdefault(name, set()).update({node.module.split(".")[1] + ".py", "__init__.py"})
        # A file that draws only from files laid down already can be laid down too; a ring never can.
        names = [name for name, text in texts()]
        laid = set()
        for name in names:
            laid.update(each for each in names if drawn.get(each, set()) <= laid)
        self.assertEqual(laid, set(names))


if __name__ == "__main__":
    unittest.main()

"""The form of the package's files, as far as LANGUAGE.md's rules can be seen in a file's tree."""

import ast
import re
import unittest
from pathlib import Path

PACKAGE = Path(__file__).resolve().parent.parent / "spreadnodes"
FILES = sorted(PACKAGE.glob("*.py"))
OWN_NAMES = """len range enumerate zip min max sum abs sorted reversed int str bool list tuple dict set frozenset isinstance
ord repr any all divmod Exception ValueError TypeError KeyError IndexError LookupError ZeroDivisionError ArithmeticError
OverflowError RuntimeError NotImplementedError AttributeError StopIteration""".split()
METHODS = """append clear copy count endswith extend find get index insert isalnum isalpha isdigit islower isspace isupper
items join keys ljust lower lstrip partition pop remove replace reverse rfind rjust rpartition rsplit rstrip setdefault
split splitlines startswith strip update upper values zfill bit_length""".split()
WORDS = """type typing typing_extensions enum Enum IntEnum StrEnum Flag IntFlag Generic Protocol ABC ABCMeta namedtuple
NamedTuple TypedDict TYPE_CHECKING abstractmethod""".split()
NODES = """Module Expr Constant ImportFrom alias FunctionDef arguments arg ClassDef Return Assign AugAssign For While If
Pass Break Continue Raise Try ExceptHandler Call Name Load Store Attribute Subscript Slice List Tuple Dict ListComp
comprehension BinOp UnaryOp BoolOp Compare IfExp JoinedStr FormattedValue Lambda keyword Add Sub Mult FloorDiv Mod Pow
BitXor BitAnd BitOr LShift RShift Invert Not USub And Or Eq NotEq Lt LtE Gt GtE Is IsNot In NotIn""".split()
WALKED = ("zip", "enumerate", "reversed", "range")
WALKERS = ("list", "tuple", "dict", "sorted", "sum", "any", "all", "enumerate", "zip")


def own_defs(tree):
    return [node for node in ast.walk(tree) if isinstance(node, (ast.FunctionDef, ast.ClassDef))]


def bound_names(tree):
    names = [node.name for node in own_defs(tree)]
    names += [node.arg for node in ast.walk(tree) if isinstance(node, ast.arg)]
    names += [node.id for node in ast.walk(tree) if isinstance(node, ast.Name) and isinstance(node.ctx, ast.Store)]
    return names


def imported_names(tree):
    return [alias.name for node in tree.body if isinstance(node, ast.ImportFrom) for alias in node.names]


class Form(unittest.TestCase):
    def each(self):
        texts = [(path, path.read_text(encoding="utf-8")) for path in FILES]
        return [(path, text, ast.parse(text)) for path, text in texts]

    def test_files(self):
        self.assertIn("__init__.py", [path.name for path in FILES])
        others = [path.name for path in PACKAGE.iterdir() if path not in FILES and path.name != "__pycache__"]
        self.assertEqual(others, [])
        for path in FILES:
            self.assertRegex(path.name, r"^[a-z0-9_]+\.py$")

    def test_signs_words_and_size(self):
        for _, text, tree in self.each():
            self.assertRegex(text, r"\A[ -~\n]*\Z")
            self.assertEqual([word for word in WORDS if re.search(rf"\b{word}\b", text)], [])
            self.assertLessEqual(len(text.splitlines()), 400)
            self.assertLessEqual(max(map(len, text.splitlines())), 120)
            for node in own_defs(tree):
                if isinstance(node, ast.FunctionDef):
                    self.assertLessEqual(node.end_lineno - node.lineno + 1, 40, node.name)

    def test_statements_and_expressions(self):
        for _, _, tree in self.each():
            for node in ast.walk(tree):
                self.assertIn(node.__class__.__name__, NODES)
                if isinstance(node, (ast.For, ast.While)):
                    self.assertEqual(node.orelse, [])
                if isinstance(node, ast.Assign):
                    self.assertEqual(len(node.targets), 1)
                    self.assertNotIsInstance(node.targets[0], (ast.Tuple, ast.List))
                if isinstance(node, ast.ListComp):
                    self.assertEqual(len(node.generators), 1)
                if isinstance(node, ast.FunctionDef):
                    self.assertEqual(node.decorator_list, [])
                    self.assertIsNone(node.args.vararg or node.args.kwarg or node.returns)
                if isinstance(node, ast.Constant) and isinstance(node.value, str):
                    self.assertNotIn(chr(37), node.value)

    def test_names(self):
        for _, _, tree in self.each():
            bound = bound_names(tree)
            imported = imported_names(tree)
            for name in bound:
                self.assertRegex(name, r"^(__init__|[A-Za-z][A-Za-z0-9_]*)$")
                self.assertNotIn(name, dir(__builtins__) if not isinstance(__builtins__, dict) else __builtins__)
                self.assertNotIn(name, imported)
            for node in ast.walk(tree):
                if isinstance(node, ast.Name) and isinstance(node.ctx, ast.Load):
                    self.assertIn(node.id, bound + imported + OWN_NAMES)
                if isinstance(node, ast.Call) and isinstance(node.func, ast.Attribute):
                    self.assertIn(node.func.attr, METHODS)

    def test_imports(self):
        drawn = {}
        for path, _, tree in self.each():
            module = "spreadnodes." + path.stem
            drawn[module] = []
            for node in ast.walk(tree):
                if isinstance(node, ast.ImportFrom):
                    self.assertEqual(node.level, 0)
                    self.assertIn(node, tree.body)
                    source = PACKAGE / (node.module.removeprefix("spreadnodes.") + ".py")
                    self.assertIn(source, FILES)
                    top = ast.parse(source.read_text(encoding="utf-8")).body
                    defined = [one.name for one in top if isinstance(one, (ast.FunctionDef, ast.ClassDef))]
                    defined += [one.targets[0].id for one in top if isinstance(one, ast.Assign)]
                    for alias in node.names:
                        self.assertIn(alias.name, defined)
                        self.assertIsNone(alias.asname)
                    drawn[module].append(node.module)
        self.assertEqual(drawn["spreadnodes.__init__"], [])
        while drawn:
            free = [module for module in drawn if not any(other in drawn for other in drawn[module])]
            self.assertTrue(free, "files draw from one another in a ring")
            for module in free:
                drawn.pop(module)

    def test_tops(self):
        for _, _, tree in self.each():
            tops = [node for node in tree.body if not isinstance(node, (ast.ImportFrom, ast.FunctionDef, ast.ClassDef))]
            self.assertIsNotNone(ast.get_docstring(tree))
            for node in tops[1:]:
                self.assertIsInstance(node, ast.Assign)
                ast.literal_eval(node.value)
            names = [node.targets[0].id for node in tops[1:]] + imported_names(tree)
            names += [node.name for node in tree.body if isinstance(node, (ast.FunctionDef, ast.ClassDef))]
            self.assertEqual(len(names), len(set(names)))

    def test_walked_at_once(self):
        for _, _, tree in self.each():
            let = []
            for node in ast.walk(tree):
                if isinstance(node, (ast.For, ast.comprehension)):
                    let.append(node.iter)
                if isinstance(node, ast.Call) and isinstance(node.func, ast.Name) and node.func.id in WALKERS:
                    let += node.args[:1]
            for node in ast.walk(tree):
                if isinstance(node, ast.Call) and isinstance(node.func, ast.Name) and node.func.id in WALKED:
                    self.assertIn(node, let, f"line {node.lineno}")


if __name__ == "__main__":
    unittest.main()

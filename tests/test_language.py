"""What can be seen of ../shared/LANGUAGE.md in the package's files; a rule's number stands with what breaks it."""

import ast
import builtins
import pathlib
import re
import unittest

PACKAGE = pathlib.Path(__file__).resolve().parent.parent / "askedjust"

NODES = set("""
    Module FunctionDef ClassDef arguments arg Return Assign AugAssign For While If Raise Try ExceptHandler
    ImportFrom alias Expr Pass Break Continue BoolOp And Or BinOp Add Sub Mult FloorDiv Mod Pow LShift RShift
    BitOr BitXor BitAnd UnaryOp Invert Not USub Lambda IfExp Dict ListComp comprehension Compare Eq NotEq Lt LtE
    Gt GtE Is IsNot In NotIn Call keyword Constant Attribute Subscript Name List Tuple Slice Load Store
    JoinedStr FormattedValue
""".split())

OWN_NAMES = set("""
    len range enumerate zip min max sum abs sorted reversed int str bool list tuple dict set isinstance ord repr
    any all divmod Exception ValueError KeyError IndexError LookupError ZeroDivisionError ArithmeticError
    OverflowError RuntimeError NotImplementedError StopIteration
""".split())

METHODS = set("""
    append clear copy count endswith extend find get index insert isalnum isalpha isdigit islower isspace isupper
    items join keys ljust lower lstrip partition pop remove replace reverse rfind rjust rpartition rsplit rstrip
    setdefault split splitlines startswith strip update upper values zfill bit_length
""".split())

TAKEN = {name for kind in (str, int, list, dict, set, bytes) for name in dir(kind)}

WORDS = re.compile(
    r"\b(type|typing|typing_extensions|enum|Enum|IntEnum|StrEnum|Flag|IntFlag|Generic|Protocol|ABC|ABCMeta|"
    r"namedtuple|NamedTuple|TypedDict|TYPE_CHECKING|abstractmethod)\b|dataclass|overload|contextmanager"
)


def text_faults(text):
    rows = text.split("\n")
    faults = ["L10 file"] if len(rows) > 401 else []
    faults += [f"L10 row {k}" for k, row in enumerate(rows, 1) if len(row) > 120]
    faults += [f"L14 sign {sign!r}" for sign in text if sign != "\n" and not " " <= sign <= "~"]
    return faults + [f"L17 word {found.group()}" for found in WORDS.finditer(text)]


def bound_names(tree):
    names = []
    for node in ast.walk(tree):
        if isinstance(node, ast.arg):
            names.append(node.arg)
        if isinstance(node, ast.Name) and isinstance(node.ctx, ast.Store):
            names.append(node.id)
        if isinstance(node, ast.ExceptHandler) and node.name:
            names.append(node.name)
    return names


def defined_names(tree):
    kinds = (ast.FunctionDef, ast.ClassDef)
    names = [node.name for node in ast.walk(tree) if isinstance(node, kinds)]
    return names + [a.name for node in ast.walk(tree) if isinstance(node, ast.ImportFrom) for a in node.names]


def name_faults(tree):
    bound = bound_names(tree)
    known = set(bound) | set(defined_names(tree)) | OWN_NAMES
    used = [node.id for node in ast.walk(tree) if isinstance(node, ast.Name)]
    top = [name for node in tree.body for name in bound_names(node) if isinstance(node, ast.Assign)]
    top += [node.name for node in tree.body if isinstance(node, (ast.FunctionDef, ast.ClassDef))]
    faults = [f"L8 {name}" for name in used if name not in known]
    faults += [f"L12 {name}" for name in bound + defined_names(tree) if name.startswith("_") and name != "__init__"]
    faults += [f"L15 {name}" for name in bound if hasattr(builtins, name) or name in defined_names(tree)]
    return faults + [f"L15 twice {name}" for name in top if top.count(name) > 1]


def node_faults(tree, own_methods):
    faults = [f"L6/L7 {ast.dump(node)}" for node in ast.walk(tree) if node.__class__.__name__ not in NODES]
    for node in ast.walk(tree):
        if isinstance(node, ast.FunctionDef):
            faults += [f"L10 {node.name}"] if node.end_lineno - node.lineno >= 40 else []
            faults += [f"L4 {node.name}"] if node.decorator_list or node.args.vararg or node.args.kwarg else []
        if isinstance(node, ast.Call) and isinstance(node.func, ast.Attribute):
            faults += [f"L25 {node.func.attr}"] if node.func.attr not in METHODS | own_methods else []
        if isinstance(node, ast.Assign):
            faults += [f"L6 row {node.lineno}"] if len(node.targets) != 1 else []
        if isinstance(node, ast.Attribute) and isinstance(node.ctx, ast.Store):
            faults += [f"L26 {node.attr}"] if node.attr in TAKEN or node.attr in own_methods else []
        if isinstance(node, ast.Constant):
            faults += [f"L7 {node.value!r}"] if not isinstance(node.value, (int, str, type(None))) else []
        if isinstance(node, ast.ImportFrom):
            faults += [f"L2 {node.module}"] if not (node.module or "").startswith("askedjust.") or node.level else []
    return faults


def top_faults(tree):
    kinds = (ast.FunctionDef, ast.ClassDef, ast.Assign, ast.ImportFrom)
    rest = [node for node in tree.body if not isinstance(node, kinds)]
    words = [node for node in rest if isinstance(node, ast.Expr) and isinstance(node.value, ast.Constant)]
    return ["L3"] if len(rest) > len(words) or len(words) > 1 else []


def methods_of(trees):
    classes = [node for tree in trees for node in tree.body if isinstance(node, ast.ClassDef)]
    return {part.name for node in classes for part in node.body if isinstance(part, ast.FunctionDef)}


class Language(unittest.TestCase):
    def test_files(self):
        names = sorted(path.name for path in PACKAGE.iterdir() if path.name != "__pycache__")
        self.assertIn("__init__.py", names)
        for name in names:
            self.assertRegex(name, r"\A(__init__|[a-z][a-z0-9_]*)\.py\Z")

    def test_each_file(self):
        texts = {path.name: path.read_text(encoding="utf-8") for path in sorted(PACKAGE.glob("*.py"))}
        trees = {name: ast.parse(text) for name, text in texts.items()}
        own_methods = methods_of(trees.values())
        self.assertEqual(own_methods & (TAKEN - METHODS - {"__init__"}), set())
        for name, tree in trees.items():
            with self.subTest(name=name):
                faults = text_faults(texts[name]) + name_faults(tree) + node_faults(tree, own_methods)
                self.assertEqual(faults + top_faults(tree), [])


if __name__ == "__main__":
    unittest.main()

"""The package keeps to the small part of Python that it is to be written in.

This sees the rules that a walk over the code can see; the numbers are those of LANGUAGE.md.
"""

import ast
import builtins
import pathlib
import re
import unittest

PACKAGE = pathlib.Path(__file__).resolve().parent.parent / "owinghall"

STATEMENTS = (
    ast.Assign, ast.AugAssign, ast.If, ast.While, ast.For, ast.Return, ast.Break, ast.Continue, ast.Pass,
    ast.Raise, ast.Try, ast.Expr, ast.FunctionDef, ast.ClassDef, ast.ImportFrom, ast.Import,
)
EXPRESSIONS = (
    ast.Constant, ast.Name, ast.Attribute, ast.Subscript, ast.Slice, ast.Call, ast.BinOp, ast.UnaryOp,
    ast.BoolOp, ast.Compare, ast.IfExp, ast.List, ast.Tuple, ast.Dict, ast.Set, ast.ListComp, ast.Lambda,
    ast.JoinedStr, ast.FormattedValue,
)
BUILTINS = set(
    """len range enumerate zip min max sum abs sorted reversed int str bool list tuple dict set frozenset isinstance
    ord repr any all divmod Exception ValueError TypeError KeyError IndexError LookupError ZeroDivisionError
    ArithmeticError OverflowError RuntimeError NotImplementedError AttributeError StopIteration""".split()
)
METHODS = set(
    """append clear copy count endswith extend find get index insert isalnum isalpha isdigit islower isspace isupper
    items join keys ljust lower lstrip partition pop remove replace reverse rfind rjust rpartition rsplit rstrip
    setdefault split splitlines startswith strip update upper values zfill bit_length""".split()
)
CHANGES = set("append clear extend insert pop remove reverse setdefault update".split())
UNUSED_WORDS = set(
    """type typing typing_extensions enum Enum IntEnum StrEnum Flag IntFlag Generic Protocol ABC ABCMeta namedtuple
    NamedTuple TypedDict TYPE_CHECKING abstractmethod""".split()
)
UNUSED_PARTS = ("dataclass", "overload", "contextmanager")
UNUSED_NAMES = set(
    """register mro elements open input version_info with_traceback add_note format format_map attrgetter breakpoint
    builtins compile copyright credits delattr dir eval exec exit gc getattr globals hasattr help id importlib license
    locals methodcaller os quit setattr super type vars sys""".split()
)
WALKED = set("zip enumerate reversed range".split())
WALKED_METHODS = set("items keys values".split())
WALKERS = set("list tuple dict sorted sum any all enumerate zip min max".split())
SPECIAL = ("__init__", "__eq__", "__repr__", "__str__", "__len__", "__all__", "__version__")


def module_name(path):
    inside = path.relative_to(PACKAGE.parent).with_suffix("")
    return ".".join(part for part in inside.parts if part != "__init__")


def bound_names(tree):
    """Each name that the file gives a meaning to, with its row."""
    told = []
    for node in ast.walk(tree):
        if isinstance(node, (ast.FunctionDef, ast.ClassDef)):
            told.append((node.name, node.lineno))
        elif isinstance(node, ast.arg):
            told.append((node.arg, node.lineno))
        elif isinstance(node, ast.Name) and isinstance(node.ctx, ast.Store):
            told.append((node.id, node.lineno))
    return told


def is_walk(node):
    """Whether the node is a call of which the outcome must be walked on the spot."""
    if not isinstance(node, ast.Call):
        return False
    if isinstance(node.func, ast.Name):
        return node.func.id in WALKED
    return isinstance(node.func, ast.Attribute) and node.func.attr in WALKED_METHODS


def walked_places(tree):
    """The nodes that stand where something is walked on the spot."""
    told = []
    for node in ast.walk(tree):
        if isinstance(node, (ast.For, ast.comprehension)):
            told.append(node.iter)
        elif isinstance(node, ast.Call) and isinstance(node.func, ast.Name) and node.func.id in WALKERS:
            told += node.args[:1]
        elif isinstance(node, ast.Call) and isinstance(node.func, ast.Attribute) and node.func.attr == "join":
            told += node.args
    return told


def changed_names(node):
    """The names of which a part is set, or on which a method that changes is called, within the node."""
    told = []
    for part in ast.walk(node):
        if isinstance(part, ast.Subscript) and isinstance(part.ctx, ast.Store):
            told.append(ast.unparse(part.value))
        elif isinstance(part, ast.Call) and isinstance(part.func, ast.Attribute) and part.func.attr in CHANGES:
            told.append(ast.unparse(part.func.value))
    return told


class LanguageTest(unittest.TestCase):
    @classmethod
    def setUpClass(cls):
        cls.paths = sorted(path for path in PACKAGE.rglob("*.py"))
        cls.texts = {path: path.read_text(encoding="utf-8") for path in cls.paths}
        cls.trees = {path: ast.parse(text) for path, text in cls.texts.items()}

    def fine(self, good, path, line, rule):
        if not good:
            self.fail(f"{path.name}:{line}: {rule}")

    def nodes(self):
        return [(path, node) for path, tree in self.trees.items() for node in ast.walk(tree)]

    def test_files(self):
        self.assertTrue((PACKAGE / "__init__.py").is_file())
        for path in PACKAGE.rglob("*"):
            if "__pycache__" not in path.parts:
                self.assertTrue(path.is_dir() or path.suffix == ".py", f"L1: {path}")
                self.assertRegex(path.stem, r"\A[a-z0-9_]+\Z", "L14")
                self.assertNotIn(path.stem, dir(builtins), "L14")
                self.assertNotRegex(path.stem, r"\A(test.*|site|conftest|sitecustomize|usercustomize)\Z", "L14")

    def test_signs_words_and_sizes(self):
        for path, text in self.texts.items():
            rows = text.split("\n")
            self.fine(len(rows) <= 400, path, len(rows), "L10 file")
            for line, row in enumerate(rows, start=1):
                self.fine(len(row) <= 120, path, line, "L10 row")
                self.fine(all(" " <= sign <= "~" for sign in row), path, line, "L14 signs")
                self.fine(not set(re.findall(r"\w+", row)) & UNUSED_WORDS, path, line, "L17 words")
                self.fine(not any(part in row for part in UNUSED_PARTS), path, line, "L17 words")
        for path, node in self.nodes():
            if isinstance(node, ast.FunctionDef):
                self.fine(node.end_lineno - node.lineno < 40, path, node.lineno, "L10 function")

    def test_statements(self):
        for path, node in self.nodes():
            if isinstance(node, ast.stmt):
                self.fine(isinstance(node, STATEMENTS), path, node.lineno, "L6")
            if isinstance(node, (ast.For, ast.While)):
                self.fine(not node.orelse, path, node.lineno, "L6 else behind a loop")
            if isinstance(node, ast.Try):
                self.fine(not node.finalbody, path, node.lineno, "L6 finally")
                self.fine(all(handler.type for handler in node.handlers), path, node.lineno, "L6 except")
            if isinstance(node, ast.Assign):
                plain = len(node.targets) == 1 and not isinstance(node.targets[0], (ast.Tuple, ast.List))
                self.fine(plain, path, node.lineno, "L6 one target")

    def test_a_value_stands_by_itself_only_as_a_call_or_a_files_docstring(self):
        for path, tree in self.trees.items():
            for node in ast.walk(tree):
                if isinstance(node, ast.Expr) and node is not tree.body[0]:
                    self.fine(isinstance(node.value, ast.Call), path, node.lineno, "L6")

    def test_expressions(self):
        for path, node in self.nodes():
            if isinstance(node, ast.expr):
                self.fine(isinstance(node, EXPRESSIONS), path, node.lineno, "L7")
            if isinstance(node, ast.Constant):
                kinds = (int, str, bool, type(None))
                self.fine(isinstance(node.value, kinds), path, node.lineno, "L7 values")
                self.fine("%" not in str(node.value), path, node.lineno, "L27")
            if isinstance(node, ast.BinOp):
                self.fine(not isinstance(node.op, (ast.Div, ast.MatMult)), path, node.lineno, "L7 /")
                if isinstance(node.op, ast.Pow):
                    written = isinstance(node.right, ast.Constant) and 0 <= node.right.value <= 64
                    self.fine(written, path, node.lineno, "L27 exponent")
            if isinstance(node, ast.ListComp):
                one = len(node.generators) == 1 and len(node.generators[0].ifs) <= 1
                self.fine(one, path, node.lineno, "L7 comprehension")
            if isinstance(node, ast.FormattedValue):
                plain = isinstance(node.value, ast.Name) and node.format_spec is None and node.conversion in (-1, 114)
                self.fine(plain, path, node.lineno, "L7 f-string")
            if isinstance(node, ast.Compare) and any(isinstance(op, (ast.Is, ast.IsNot)) for op in node.ops):
                sides = [node.left] + node.comparators
                beside = any(isinstance(side, ast.Constant) and isinstance(side.value, (bool, type(None)))
                             for side in sides)
                self.fine(beside, path, node.lineno, "L20")

    def test_walks(self):
        for path, tree in self.trees.items():
            places = walked_places(tree)
            for node in ast.walk(tree):
                if is_walk(node):
                    self.fine(any(node is place for place in places), path, node.lineno, "L23 walked at once")
                if isinstance(node, ast.For):
                    source = node.iter.args if isinstance(node.iter, ast.Call) else [node.iter]
                    walked = [ast.unparse(part) for part in source if is_walk(node.iter) or part is node.iter]
                    kept = not set(walked) & set(changed_names(node))
                    self.fine(kept, path, node.lineno, "L23 changed in its walk")

    def test_sets(self):
        for path, tree in self.trees.items():
            held = []
            for node in ast.walk(tree):
                if isinstance(node, ast.Compare):
                    held += [node.left] + node.comparators
                elif isinstance(node, ast.Call) and isinstance(node.func, ast.Name):
                    held += node.args if node.func.id in ("sorted", "len") and not node.keywords else []
                elif isinstance(node, ast.BinOp) and isinstance(node.op, (ast.Sub, ast.BitAnd, ast.BitOr, ast.BitXor)):
                    held += [node.left, node.right]
            for node in ast.walk(tree):
                made = isinstance(node, ast.Call) and isinstance(node.func, ast.Name) and node.func.id == "set"
                if made or isinstance(node, ast.Set):
                    self.fine(any(node is place for place in held), path, node.lineno, "L24")

    def test_functions_and_classes(self):
        for path, node in self.nodes():
            if isinstance(node, (ast.FunctionDef, ast.ClassDef)):
                self.fine(not node.decorator_list, path, node.lineno, "L4, L5 decorator")
            if isinstance(node, ast.arguments):
                plain = not (node.vararg or node.kwarg or node.kwonlyargs or node.posonlyargs)
                self.fine(plain, path, 0, "L4 parameters")
                given = all(isinstance(value, ast.Constant) for value in node.defaults)
                self.fine(given, path, 0, "L4 defaults")
            if isinstance(node, ast.FunctionDef):
                self.fine(node.returns is None, path, node.lineno, "L21")
            if isinstance(node, ast.arg):
                self.fine(node.annotation is None, path, node.lineno, "L21")
            if isinstance(node, ast.ClassDef):
                self.fine(len(node.bases) <= 1 and not node.keywords, path, node.lineno, "L5 base")
                body = all(isinstance(part, (ast.FunctionDef, ast.Pass)) for part in node.body)
                self.fine(body, path, node.lineno, "L5 body")

    def test_the_top_of_each_file(self):
        kinds = (ast.ImportFrom, ast.FunctionDef, ast.ClassDef, ast.Assign)
        for path, tree in self.trees.items():
            self.fine(ast.get_docstring(tree), path, 1, "a docstring at the top")
            for node in tree.body[1:]:
                self.fine(isinstance(node, kinds), path, node.lineno, "L3")
            names = [node.name for node in tree.body if isinstance(node, (ast.FunctionDef, ast.ClassDef))]
            names += [node.targets[0].id for node in tree.body if isinstance(node, ast.Assign)]
            self.fine(len(names) == len(set(names)), path, 1, "L15 each name once")

    def test_names(self):
        for path, tree in self.trees.items():
            brought = [part.name for node in tree.body if isinstance(node, ast.ImportFrom) for part in node.names]
            classes = [node.name for node in tree.body if isinstance(node, ast.ClassDef)]
            for name, line in bound_names(tree):
                plain = re.fullmatch(r"[A-Za-z][A-Za-z0-9_]*", name) or name in SPECIAL
                self.fine(plain, path, line, f"L12 {name}")
                self.fine(name not in dir(builtins), path, line, f"L8, L15 {name}")
                self.fine(name not in UNUSED_NAMES, path, line, f"L17 {name}")
                self.fine(name not in brought, path, line, f"L15 {name}")
                self.fine(classes.count(name) <= 1, path, line, f"L15 {name}")

    def test_pythons_own_names(self):
        for path, tree in self.trees.items():
            own = {name for name, line in bound_names(tree)}
            own |= {part.name for node in tree.body if isinstance(node, ast.ImportFrom) for part in node.names}
            own |= {node.name for node in ast.walk(tree) if isinstance(node, ast.ExceptHandler)}
            for node in ast.walk(tree):
                if isinstance(node, ast.Name) and node.id not in own:
                    self.fine(node.id in BUILTINS, path, node.lineno, f"L8 {node.id}")

    def test_attributes(self):
        own = {node.attr for path, node in self.nodes()
               if isinstance(node, ast.Attribute) and isinstance(node.ctx, ast.Store)}
        own |= {part.name for path, node in self.nodes() if isinstance(node, ast.ClassDef)
                for part in node.body if isinstance(part, ast.FunctionDef)}
        for path, node in self.nodes():
            if isinstance(node, ast.Attribute):
                self.fine(node.attr in METHODS or node.attr in own, path, node.lineno, f"L25 {node.attr}")
                self.fine(node.attr not in UNUSED_NAMES, path, node.lineno, f"L17 {node.attr}")

    def test_imports_come_from_the_file_that_defines_the_name(self):
        defined = {module_name(path): {name for name, line in bound_names(tree)} for path, tree in self.trees.items()}
        for path, node in self.nodes():
            self.fine(not isinstance(node, ast.Import), path, getattr(node, "lineno", 0), "L16")
            if isinstance(node, ast.ImportFrom):
                self.fine(node.level == 0 and node.module in defined, path, node.lineno, "L2")
                for part in node.names:
                    found = part.name in defined[node.module] and part.asname is None
                    self.fine(found, path, node.lineno, f"L16 {part.name}")

    def test_no_two_files_draw_from_one_another(self):
        drawn = {module_name(path): {node.module for node in tree.body if isinstance(node, ast.ImportFrom)}
                 for path, tree in self.trees.items()}
        while drawn:
            free = [name for name, needs in drawn.items() if not needs & set(drawn)]
            self.assertTrue(free, f"L16: {sorted(drawn)}")
            for name in free:
                drawn.pop(name)


if __name__ == "__main__":
    unittest.main()

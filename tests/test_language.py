"""The package keeps to its small part of Python; the numbers L1 to L28 are those of the rules."""

import ast
import builtins
import re
import unittest
from pathlib import Path

PACKAGE = Path(__file__).resolve().parent.parent / "tickdesign"
FILES = sorted(PACKAGE.rglob("*.py"))
NAMES_OF_PYTHON = set(dir(builtins))
USABLE = set("""len range enumerate zip min max sum abs sorted reversed int str bool list tuple dict set frozenset
isinstance ord repr any all divmod Exception ValueError TypeError KeyError IndexError LookupError ZeroDivisionError
ArithmeticError OverflowError RuntimeError NotImplementedError AttributeError StopIteration""".split())
METHODS = set("""append clear copy count endswith extend find get index insert isalnum isalpha isdigit islower isspace
isupper items join keys ljust lower lstrip partition pop remove replace reverse rfind rjust rpartition rsplit rstrip
setdefault split splitlines startswith strip update upper values zfill bit_length""".split())
NOT_AS_NAMES = set("""register mro elements open input version_info with_traceback add_note attrgetter breakpoint
builtins compile copyright credits delattr dir eval exec exit gc getattr globals hasattr help id importlib license
locals methodcaller os quit setattr super type vars sys""".split())
NOT_AS_WORDS = re.compile(r"""\b(type|typing|typing_extensions|enum|Enum|IntEnum|StrEnum|Flag|IntFlag|Generic|Protocol
|ABC|ABCMeta|namedtuple|NamedTuple|TypedDict|TYPE_CHECKING|abstractmethod)\b|dataclass|overload|contextmanager""", re.X)
STATEMENTS = (ast.Assign, ast.AugAssign, ast.If, ast.While, ast.For, ast.Return, ast.Break, ast.Continue, ast.Pass,
              ast.Raise, ast.Try, ast.Expr, ast.FunctionDef, ast.ClassDef, ast.ImportFrom)
EXPRESSIONS = (ast.BinOp, ast.UnaryOp, ast.BoolOp, ast.Compare, ast.IfExp, ast.Call, ast.Attribute, ast.Subscript,
               ast.Slice, ast.ListComp, ast.Constant, ast.Name, ast.List, ast.Tuple, ast.Dict, ast.Lambda)
CHANGES = ("append", "clear", "extend", "insert", "pop", "remove", "reverse", "setdefault", "update")
WALKED = ("zip", "enumerate", "reversed", "range")
MAY_WALK = ("list", "tuple", "dict", "sorted", "sum", "any", "all", "enumerate", "zip", "min", "max")


def is_plain(node):
    """A written value of a file's top."""
    if isinstance(node, (ast.List, ast.Tuple)):
        return all(is_plain(part) for part in node.elts)
    if isinstance(node, ast.Dict):
        return all(is_plain(part) for part in node.keys + node.values)
    return isinstance(node, ast.Constant)


def bound_names(tree):
    """Each name that is bound somewhere, as often as it is."""
    for node in ast.walk(tree):
        if isinstance(node, ast.Name) and isinstance(node.ctx, ast.Store):
            yield node.id
        elif isinstance(node, ast.arg):
            yield node.arg
        elif isinstance(node, (ast.FunctionDef, ast.ClassDef)):
            yield node.name


def changed_names(tree):
    """Each name whose value is changed: by a call, at an index, or by being bound anew."""
    for node in ast.walk(tree):
        if isinstance(node, ast.Call) and isinstance(node.func, ast.Attribute) and node.func.attr in CHANGES:
            node = node.func.value
        elif isinstance(node, ast.Subscript) and isinstance(node.ctx, ast.Store):
            node = node.value
        elif not (isinstance(node, ast.Name) and isinstance(node.ctx, ast.Store)):
            continue
        if isinstance(node, ast.Name):
            yield node.id


def defined_names(stem):
    tree = ast.parse((PACKAGE / (stem + ".py")).read_text(encoding="utf-8"))
    for node in tree.body:
        if isinstance(node, (ast.FunctionDef, ast.ClassDef)):
            yield node.name
        elif isinstance(node, ast.Assign):
            yield node.targets[0].id


class Language(unittest.TestCase):
    def each(self, check):
        for path in FILES:
            with self.subTest(file=path.name):
                text = path.read_text(encoding="utf-8")
                check(text, ast.parse(text))

    def test_files(self):
        """L1, L14."""
        self.assertIn(PACKAGE / "desk.py", FILES)
        self.assertIn(PACKAGE / "__init__.py", FILES)
        for path in PACKAGE.rglob("*"):
            if "__pycache__" in path.parts:
                continue
            self.assertTrue(path.is_file() and path.suffix == ".py", path)
            self.assertRegex(path.name, r"^([a-z][a-z0-9_]*|__init__|__main__)\.py$")
            self.assertNotIn(path.stem, NAMES_OF_PYTHON | NOT_AS_NAMES)
            self.assertFalse(path.stem.startswith("test"))

    def test_signs_and_words(self):
        """L14, L17, L27."""
        self.each(self.check_signs_and_words)

    def check_signs_and_words(self, text, tree):
        self.assertEqual([sign for sign in text if not (" " <= sign <= "~" or sign == "\n")], [])
        self.assertIsNone(NOT_AS_WORDS.search(text))
        self.assertIsNone(re.search(r"\d{901}", text))

    def test_size(self):
        """L10."""
        self.each(self.check_size)

    def check_size(self, text, tree):
        lines = text.split("\n")
        self.assertLessEqual(len(lines), 400)
        self.assertLessEqual(max(len(line) for line in lines), 120)
        for node in ast.walk(tree):
            if isinstance(node, ast.FunctionDef):
                self.assertLessEqual(node.end_lineno - node.lineno + 1, 40, node.name)

    def test_statements_and_expressions(self):
        """L4 to L7, L20, L21, L23, L27."""
        self.each(self.check_forms)

    def check_forms(self, text, tree):
        for node in ast.walk(tree):
            if isinstance(node, ast.stmt):
                self.assertIsInstance(node, STATEMENTS)
                self.check_statement(node)
            if isinstance(node, ast.expr):
                self.assertIsInstance(node, EXPRESSIONS)
                self.check_expression(node)

    def check_statement(self, node):
        if isinstance(node, (ast.For, ast.While)):
            self.assertEqual(node.orelse, [])
        if isinstance(node, ast.For):
            walked = {part.id for part in ast.walk(node.iter) if isinstance(part, ast.Name)}
            for part in node.body:
                self.assertEqual(walked & set(changed_names(part)), set())
        if isinstance(node, ast.Assign):
            self.assertEqual(len(node.targets), 1)
            self.assertNotIsInstance(node.targets[0], (ast.Tuple, ast.List))
        if isinstance(node, ast.Try):
            self.assertEqual(node.finalbody, [])
            self.assertTrue(all(handler.type is not None for handler in node.handlers))
        if isinstance(node, ast.FunctionDef):
            self.assertEqual(node.decorator_list, [])
            self.assertIsNone(node.returns)
            self.assertIsNone(node.args.vararg or node.args.kwarg)
            self.assertEqual(node.args.kwonlyargs + node.args.posonlyargs, [])
            self.assertTrue(all(arg.annotation is None for arg in node.args.args))
        if isinstance(node, ast.ClassDef):
            self.assertEqual(node.decorator_list + node.keywords, [])
            self.assertLessEqual(len(node.bases), 1)

    def check_expression(self, node):
        if isinstance(node, ast.ListComp):
            self.assertEqual(len(node.generators), 1)
            self.assertLessEqual(len(node.generators[0].ifs), 1)
        if isinstance(node, ast.BinOp):
            self.assertNotIsInstance(node.op, (ast.Div, ast.MatMult, ast.Pow))
        if isinstance(node, ast.Constant):
            self.assertNotIsInstance(node.value, (float, complex, bytes))
        if isinstance(node, ast.Compare):
            self.assertFalse(any(isinstance(op, (ast.Is, ast.IsNot)) for op in node.ops))

    def test_top(self):
        """L3, L15: a file's top holds written values alone, each name once, and no local is called like one of them."""
        self.each(self.check_top)

    def check_top(self, text, tree):
        self.assertIsNotNone(ast.get_docstring(tree))
        names = []
        for node in tree.body[1:]:
            self.assertIsInstance(node, (ast.ImportFrom, ast.FunctionDef, ast.ClassDef, ast.Assign))
            if isinstance(node, ast.Assign):
                self.assertTrue(is_plain(node.value))
                names.append(node.targets[0].id)
            elif isinstance(node, ast.ImportFrom):
                names += [alias.name for alias in node.names]
            else:
                names.append(node.name)
        self.assertEqual(len(names), len(set(names)))
        local = [name for function in tree.body if isinstance(function, ast.FunctionDef)
                 for part in function.body + [function.args] for name in bound_names(part)]
        self.assertEqual(set(local) & set(names), set())

    def test_imports(self):
        """L2, L16: from the package's own files alone, from the one that defines the name."""
        self.each(self.check_imports)

    def check_imports(self, text, tree):
        for node in ast.walk(tree):
            if isinstance(node, ast.ImportFrom):
                self.assertEqual(node.level, 0)
                self.assertRegex(node.module, r"^tickdesign\.[a-z]+$")
                self.assertIn(node, tree.body)
                for alias in node.names:
                    self.assertIsNone(alias.asname)
                    self.assertIn(alias.name, defined_names(node.module.split(".")[1]))
                    self.assertGreater(len(re.findall(r"\b%s\b" % alias.name, text)), 1, "drawn but not used")

    def test_no_two_files_draw_from_one_another(self):
        """L16."""
        drawn = {}
        for path in FILES:
            tree = ast.parse(path.read_text(encoding="utf-8"))
            drawn[path.stem] = {node.module.split(".")[1] for node in tree.body if isinstance(node, ast.ImportFrom)}
        while drawn:
            free = [name for name in drawn if not drawn[name] & set(drawn)]
            self.assertNotEqual(free, [])
            for name in free:
                drawn.pop(name)

    def test_names(self):
        """L8, L12, L15, L17, L25."""
        self.each(self.check_names)

    def check_names(self, text, tree):
        bound = list(bound_names(tree))
        for name in bound:
            self.assertRegex(name, r"^[A-Za-z][A-Za-z0-9_]*$")
            self.assertNotIn(name, NAMES_OF_PYTHON | NOT_AS_NAMES)
        drawn = [alias.name for node in tree.body if isinstance(node, ast.ImportFrom) for alias in node.names]
        for node in ast.walk(tree):
            if isinstance(node, ast.Name) and node.id not in bound + drawn:
                self.assertIn(node.id, USABLE)
            if isinstance(node, ast.Attribute):
                self.assertIn(node.attr, METHODS)

    def test_walked_at_once(self):
        """L22, L23: what is made to be walked is walked on the spot, and no call has a keyword."""
        self.each(self.check_walked_at_once)

    def check_walked_at_once(self, text, tree):
        walks = []
        for node in ast.walk(tree):
            if isinstance(node, (ast.For, ast.comprehension)):
                walks.append(node.iter)
            if isinstance(node, ast.Call):
                self.assertEqual(node.keywords, [])
                if isinstance(node.func, ast.Name) and node.func.id in MAY_WALK:
                    walks += node.args[:1]
        for node in ast.walk(tree):
            if isinstance(node, ast.Call) and isinstance(node.func, ast.Name) and node.func.id in WALKED:
                self.assertIn(node, walks)

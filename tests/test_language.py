"""The package's files keep to the rules of its language that can be seen from their text."""

import ast
import builtins
import pathlib
import re
import unittest

PACKAGE = pathlib.Path(__file__).resolve().parent.parent / "granthouse"
FILES = sorted(PACKAGE.glob("*.py"))

NODES = set("""
    Module FunctionDef ClassDef arguments arg Return Assign For While If Raise Try ExceptHandler ImportFrom alias Expr
    Pass Break Continue BoolOp And Or BinOp Add Sub Mult FloorDiv Mod UnaryOp Not USub Lambda IfExp Dict ListComp
    comprehension Compare Eq NotEq Lt LtE Gt GtE Is IsNot In NotIn Call keyword Constant Attribute Subscript Slice
    Name List Tuple Load Store
""".split())
BUILTINS = set("""
    len range enumerate zip min max sum abs sorted reversed int str bool list tuple dict set frozenset isinstance ord
    repr any all divmod Exception ValueError TypeError KeyError IndexError LookupError ZeroDivisionError
    ArithmeticError OverflowError RuntimeError NotImplementedError StopIteration
""".split())
OWN_METHODS = set("""
    append clear copy count endswith extend find get index insert isalnum isalpha isdigit islower isspace isupper
    items join keys ljust lower lstrip partition pop remove replace reverse rfind rjust rpartition rsplit rstrip
    setdefault split splitlines startswith strip update upper values zfill bit_length
""".split())
BANNED_NAMES = set("""
    register mro elements open input version_info with_traceback add_note attrgetter breakpoint builtins compile
    copyright credits delattr dir eval exec exit gc getattr globals hasattr help id importlib license locals
    methodcaller os quit setattr super type vars sys
""".split())
BANNED_WORDS = re.compile(
    r"\b(type|typing|typing_extensions|enum|Enum|IntEnum|StrEnum|Flag|IntFlag|Generic|Protocol|ABC|ABCMeta|namedtuple"
    r"|NamedTuple|TypedDict|TYPE_CHECKING|abstractmethod)\b|dataclass|overload|contextmanager")

KEYWORDS = {
    "sorted": ("key", "reverse"), "min": ("key", "default"), "max": ("key", "default"), "sum": ("start",),
    "enumerate": ("start",), "zip": ("strict",),
}
WALKED = ("zip", "enumerate", "reversed", "range", "items", "keys", "values")
WALKERS = ("list", "tuple", "dict", "sorted", "sum", "any", "all", "enumerate", "zip", "min", "max")


def parents_in(tree):
    return {child: node for node in ast.walk(tree) for child in ast.iter_child_nodes(node)}


def called_name(node):
    """The name of what is called here, as a name or as a method; nothing if this is no call."""
    if not isinstance(node, ast.Call):
        return ""
    return node.func.attr if isinstance(node.func, ast.Attribute) else node.func.id


def is_text(node):
    return isinstance(node, ast.Expr) and isinstance(node.value, ast.Constant)


def names_in(tree):
    for node in ast.walk(tree):
        if isinstance(node, ast.Name):
            yield node.id
        elif isinstance(node, ast.Attribute):
            yield node.attr
        elif isinstance(node, ast.arg):
            yield node.arg
        elif isinstance(node, (ast.FunctionDef, ast.ClassDef)):
            yield node.name


def bound_in(tree):
    for node in ast.walk(tree):
        if isinstance(node, ast.Name) and isinstance(node.ctx, ast.Store):
            yield node.id
        elif isinstance(node, ast.arg):
            yield node.arg
        elif isinstance(node, (ast.FunctionDef, ast.ClassDef)):
            yield node.name


class Language(unittest.TestCase):
    def each(self):
        self.assertTrue(FILES)
        for path in FILES:
            text = path.read_bytes().decode("ascii")
            with self.subTest(file=path.name):
                yield path, text, ast.parse(text)

    def test_only_plain_files_lie_in_the_package(self):
        names = [path.name for path in PACKAGE.iterdir() if path.name != "__pycache__"]
        self.assertIn("__init__.py", names)
        for name in names:
            self.assertRegex(name, r"^(__init__|[a-z][a-z0-9_]*)\.py$")
            self.assertNotIn(name[:-3], dir(builtins))

    def test_sizes_and_signs(self):
        for path, text, tree in self.each():
            self.assertLessEqual(len(text.splitlines()), 400)
            self.assertLessEqual(max(len(line) for line in text.splitlines()), 120)
            self.assertTrue(all(sign == "\n" or " " <= sign <= "~" for sign in text))
            self.assertIsNone(BANNED_WORDS.search(text))
            for node in ast.walk(tree):
                if isinstance(node, ast.FunctionDef):
                    self.assertLessEqual(node.end_lineno - node.lineno + 1, 40)

    def test_only_plain_parts_of_the_language(self):
        for path, text, tree in self.each():
            for node in ast.walk(tree):
                self.assertIn(node.__class__.__name__, NODES)
                if isinstance(node, ast.Assign):
                    self.assertEqual(len(node.targets), 1)
                    self.assertNotIsInstance(node.targets[0], (ast.Tuple, ast.List))
                if isinstance(node, (ast.For, ast.While)):
                    self.assertEqual(node.orelse, [])
                if isinstance(node, ast.Try):
                    self.assertEqual(node.finalbody, [])
                if isinstance(node, ast.ListComp):
                    self.assertEqual(len(node.generators), 1)
                    self.assertLessEqual(len(node.generators[0].ifs), 1)
                if isinstance(node, (ast.FunctionDef, ast.ClassDef)):
                    self.assertEqual(node.decorator_list, [])
                if isinstance(node, ast.Constant):
                    self.assertIn(node.value.__class__, (int, str, bool, None.__class__))

    def test_imports_are_of_the_package_alone_and_in_no_ring(self):
        drawn = {}
        for path, text, tree in self.each():
            drawn[path.stem] = set()
            for node in ast.walk(tree):
                if isinstance(node, ast.ImportFrom):
                    self.assertIn(node, tree.body)
                    self.assertEqual(node.level, 0)
                    self.assertRegex(node.module, r"^granthouse\.[a-z]+$")
                    drawn[path.stem].add(node.module.split(".")[1])
                    home = ast.parse((PACKAGE / (node.module.split(".")[1] + ".py")).read_text())
                    own = set(bound_in(home))
                    for name in node.names:
                        self.assertIsNone(name.asname)
                        self.assertIn(name.name, own)
        while drawn:
            free = [name for name in drawn if not drawn[name] & set(drawn)]
            self.assertTrue(free, drawn)
            for name in free:
                drawn.pop(name)

    def test_names(self):
        for path, text, tree in self.each():
            imported = {name.name for node in ast.walk(tree) if isinstance(node, ast.ImportFrom)
                        for name in node.names}
            for name in names_in(tree):
                self.assertNotIn(name, BANNED_NAMES)
                self.assertTrue(name == "__init__" or not name.startswith("_"), name)
                if name in dir(builtins):
                    self.assertTrue(name in BUILTINS or name in OWN_METHODS, name)
            for name in bound_in(tree):
                self.assertNotIn(name, dir(builtins))
                self.assertNotIn(name, imported)
            top = [name for node in tree.body for name in bound_in(ast.Module([node], []))
                   if isinstance(node, ast.Assign)]
            top += [node.name for node in tree.body if isinstance(node, (ast.FunctionDef, ast.ClassDef))]
            self.assertEqual(len(top), len(set(top)))

    def test_the_top_of_a_file(self):
        for path, text, tree in self.each():
            self.assertTrue(is_text(tree.body[0]))
            for node in tree.body[1:]:
                self.assertIsInstance(node, (ast.ImportFrom, ast.FunctionDef, ast.ClassDef, ast.Assign))
                if isinstance(node, ast.Assign):
                    # Tuples alone, of plain values: so nothing at the top can be changed.
                    self.assertIsInstance(node.targets[0], ast.Name)
                    for part in ast.walk(node.value):
                        self.assertIsInstance(part, (ast.Constant, ast.Tuple, ast.Load, ast.UnaryOp, ast.USub))

    def test_functions_and_classes(self):
        for path, text, tree in self.each():
            classes = [node.name for node in ast.walk(tree) if isinstance(node, ast.ClassDef)]
            for node in ast.walk(tree):
                if isinstance(node, ast.arguments):
                    self.assertEqual((node.vararg, node.kwarg, node.kwonlyargs, node.posonlyargs), (None, None, [], []))
                    self.assertEqual([part.annotation for part in node.args if part.annotation], [])
                if isinstance(node, ast.FunctionDef):
                    self.assertIsNone(node.returns)
                if isinstance(node, ast.ClassDef):
                    self.assertIn(node, tree.body)
                    self.assertLessEqual(len(node.bases), 1)
                    self.assertEqual(node.keywords, [])
                    methods = [part.name for part in node.body if not is_text(part)]
                    self.assertEqual(len(methods), len(set(methods)))
                if isinstance(node, ast.arg):
                    self.assertNotIn(node.arg, classes)
                if isinstance(node, ast.Name) and isinstance(node.ctx, ast.Store):
                    self.assertNotIn(node.id, classes)

    def test_errors_are_own_ones_made_on_the_spot(self):
        for path, text, tree in self.each():
            for node in ast.walk(tree):
                if isinstance(node, ast.ExceptHandler):
                    self.assertIsInstance(node.type, ast.Name)
                    self.assertNotIn(node.type.id, dir(builtins))
                if isinstance(node, ast.Raise):
                    self.assertNotIn(called_name(node.exc), ["", *dir(builtins)])

    def test_comparisons_by_is(self):
        for path, text, tree in self.each():
            for node in ast.walk(tree):
                if isinstance(node, ast.Compare):
                    for sign, right in zip(node.ops, node.comparators):
                        if isinstance(sign, (ast.Is, ast.IsNot)):
                            self.assertIn(getattr(right, "value", ""), (None, True, False))

    def test_keywords(self):
        for path, text, tree in self.each():
            for node in ast.walk(tree):
                if isinstance(node, ast.Call):
                    for keyword in node.keywords:
                        self.assertIn(keyword.arg, KEYWORDS.get(called_name(node), ()))

    def test_what_is_walked_is_walked_at_once(self):
        for path, text, tree in self.each():
            parents = parents_in(tree)
            for node in ast.walk(tree):
                name, parent = called_name(node), parents.get(node)
                if name in WALKED:
                    walked = isinstance(parent, (ast.For, ast.comprehension)) and parent.iter is node
                    handed = called_name(parent) in WALKERS and parent.args[0] is node
                    self.assertTrue(walked or handed, name)
                if name in ("set", "frozenset"):
                    self.assertIn(called_name(parent), ("len", "sorted"))

    def test_what_is_walked_is_not_changed_meanwhile(self):
        for path, text, tree in self.each():
            for node in ast.walk(tree):
                if isinstance(node, ast.For):
                    walked = {ast.dump(part) for part in ast.walk(node.iter)}
                    for part in ast.walk(node):
                        if called_name(part) in ("append", "extend", "insert", "pop", "remove", "clear", "update"):
                            self.assertNotIn(ast.dump(part.func.value), walked)

    def test_numbers_and_texts(self):
        for path, text, tree in self.each():
            for node in ast.walk(tree):
                if isinstance(node, ast.Constant) and isinstance(node.value, str):
                    self.assertNotIn("%", node.value)
            self.assertNotIn("\\", text)
            self.assertNotIn("chr", list(names_in(tree)))

    def test_methods_and_values_of_objects(self):
        methods, values, called = set(), set(), set()
        for path, text, tree in self.each():
            for node in ast.walk(tree):
                if isinstance(node, ast.ClassDef):
                    methods.update(part.name for part in node.body if isinstance(part, ast.FunctionDef))
                if isinstance(node, ast.Attribute) and isinstance(node.ctx, ast.Store):
                    values.add(node.attr)
                if isinstance(node, ast.Call) and isinstance(node.func, ast.Attribute):
                    called.add(node.func.attr)
        self.assertEqual(methods & values, set())
        self.assertEqual(called - methods - OWN_METHODS, set())
        taken = set()
        for value in ("", 0, [], {}, set(), b""):
            taken |= {name for name in dir(value) if not name.startswith("__")}
        self.assertEqual((methods | values) & taken, set())


if __name__ == "__main__":
    unittest.main()

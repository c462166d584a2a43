"""The form of the package's files: the part of Python that the program keeps to, as far as its tree shows it."""

import ast
import builtins
import pathlib
import re
import unittest

PACKAGE = pathlib.Path(__file__).resolve().parent.parent / "fairdays"
FILES = sorted(PACKAGE.rglob("*.py"))
NODES = set("""
    Module Expr Assign AugAssign If While For Return Break Continue Pass Raise Try ExceptHandler ImportFrom alias
    FunctionDef ClassDef Lambda arguments arg Constant List Tuple Dict Set ListComp comprehension
    JoinedStr FormattedValue Name Attribute Subscript Slice Call keyword BinOp UnaryOp BoolOp Compare IfExp Load Store
    Add Sub Mult FloorDiv Mod Pow BitAnd BitOr BitXor LShift RShift Invert USub UAdd Not And Or
    Eq NotEq Lt LtE Gt GtE Is IsNot In NotIn
""".split())
OWN_NAMES = set("""
    len range enumerate zip min max sum abs sorted reversed int str bool list tuple dict set frozenset isinstance ord
    repr any all divmod Exception ValueError TypeError KeyError IndexError LookupError ZeroDivisionError ArithmeticError
    OverflowError RuntimeError NotImplementedError AttributeError StopIteration
""".split())
DUNDERS = {"__init__", "__eq__", "__repr__", "__str__", "__len__"}
METHODS = set("""
    append clear copy count endswith extend find get index insert isalnum isalpha isdigit islower isspace isupper items
    join keys ljust lower lstrip partition pop remove replace reverse rfind rjust rpartition rsplit rstrip setdefault
    split splitlines startswith strip update upper values zfill bit_length
""".split())
WORDS = re.compile(
    r"\b(type|typing|typing_extensions|enum|Enum|IntEnum|StrEnum|Flag|IntFlag|Generic|Protocol|ABC|ABCMeta|namedtuple"
    r"|NamedTuple|TypedDict|TYPE_CHECKING|abstractmethod)\b|dataclass|overload|contextmanager")


def bound_names(tree):
    for node in ast.walk(tree):
        if isinstance(node, ast.arg):
            yield node.arg
        elif isinstance(node, (ast.FunctionDef, ast.ClassDef)):
            yield node.name
        elif isinstance(node, ast.Name) and isinstance(node.ctx, ast.Store):
            yield node.id


def own_methods_and_values():
    names = set()
    for file in FILES:
        for node in ast.walk(ast.parse(file.read_text())):
            if isinstance(node, ast.FunctionDef):
                names.add(node.name)
            elif isinstance(node, ast.Attribute) and isinstance(node.ctx, ast.Store):
                names.add(node.attr)
    return names


class Form(unittest.TestCase):
    def walked(self):
        return [(file.name, file.read_text(), ast.parse(file.read_text())) for file in FILES]

    def test_the_folder(self):
        self.assertTrue((PACKAGE / "__init__.py").is_file())
        for path in PACKAGE.rglob("*"):
            if path.name != "__pycache__" and path.suffix != ".pyc":
                self.assertRegex(path.name, r"^([a-z0-9_]+\.py|[a-z0-9_]+)$")

    def test_signs_sizes_and_words(self):
        for file, text, tree in self.walked():
            self.assertRegex(text, r"\A[ -~\n]*\Z", file)
            self.assertIsNone(WORDS.search(text), file)
            lines = text.split("\n")
            self.assertLessEqual(len(lines), 400, file)
            self.assertLessEqual(max(len(line) for line in lines), 120, file)
            for node in ast.walk(tree):
                if isinstance(node, ast.FunctionDef):
                    self.assertLessEqual(node.end_lineno - node.lineno + 1, 40, (file, node.name))

    def test_only_the_named_statements_and_expressions(self):
        for file, text, tree in self.walked():
            for node in ast.walk(tree):
                self.assertIn(node.__class__.__name__, NODES, (file, getattr(node, "lineno", None)))
                if isinstance(node, ast.Constant):
                    self.assertIn(type(node.value), (int, str, bool, type(None)), (file, node.lineno))
                if isinstance(node, ast.Assign):
                    self.assertEqual(len(node.targets), 1, (file, node.lineno))
                if isinstance(node, (ast.For, ast.While)):
                    self.assertEqual(node.orelse, [], (file, node.lineno))
                if isinstance(node, (ast.FunctionDef, ast.ClassDef)):
                    self.assertEqual(node.decorator_list, [], (file, node.lineno))

    def test_the_top_of_a_file(self):
        for file, text, tree in self.walked():
            self.assertIsNotNone(ast.get_docstring(tree), file)
            for node in tree.body[1:]:
                known = (ast.ImportFrom, ast.FunctionDef, ast.ClassDef, ast.Assign)
                self.assertIsInstance(node, known, (file, node.lineno))

    def test_imports_are_the_package_alone(self):
        for file, text, tree in self.walked():
            for node in ast.walk(tree):
                if isinstance(node, ast.ImportFrom):
                    self.assertEqual(node.level, 0, (file, node.lineno))
                    self.assertRegex(node.module, r"^fairdays\.[a-z0-9_]+$", file)
                    self.assertTrue((PACKAGE / (node.module.split(".")[1] + ".py")).is_file(), file)

    def test_names(self):
        for file, text, tree in self.walked():
            for name in bound_names(tree):
                self.assertNotIn(name, dir(builtins), file)
                self.assertTrue(name in DUNDERS or re.match(r"^[A-Za-z][A-Za-z0-9_]*$", name), (file, name))
            for node in ast.walk(tree):
                if isinstance(node, ast.Name) and node.id in dir(builtins):
                    self.assertIn(node.id, OWN_NAMES, (file, node.lineno))

    def test_methods_and_values_of_objects(self):
        allowed = own_methods_and_values() | METHODS
        for file, text, tree in self.walked():
            for node in ast.walk(tree):
                if isinstance(node, ast.Attribute):
                    self.assertIn(node.attr, allowed | DUNDERS, (file, node.lineno))

    def test_is_stands_beside_none_true_and_false(self):
        for file, text, tree in self.walked():
            for node in ast.walk(tree):
                if isinstance(node, ast.Compare):
                    for sign, value in zip(node.ops, node.comparators):
                        if isinstance(sign, (ast.Is, ast.IsNot)):
                            self.assertIsInstance(value, ast.Constant, (file, node.lineno))
                            self.assertIn(value.value, (None, True, False), (file, node.lineno))

    def test_no_name_is_both_a_method_and_a_value(self):
        methods, values = set(), set()
        for file, text, tree in self.walked():
            for node in ast.walk(tree):
                if isinstance(node, ast.ClassDef):
                    methods.update(inner.name for inner in node.body if isinstance(inner, ast.FunctionDef))
                elif isinstance(node, ast.Attribute) and isinstance(node.ctx, ast.Store):
                    values.add(node.attr)
        self.assertEqual(methods & values, set())

    def test_each_name_once_at_the_top(self):
        for file, text, tree in self.walked():
            names = []
            for node in tree.body:
                if isinstance(node, ast.ImportFrom):
                    names.extend(alias.asname or alias.name for alias in node.names)
                elif isinstance(node, (ast.FunctionDef, ast.ClassDef)):
                    names.append(node.name)
                elif isinstance(node, ast.Assign):
                    names.append(node.targets[0].id)
            self.assertEqual(len(names), len(set(names)), file)
            taken = {name for name in names if name[0].isupper()}
            taken.update(alias.name for node in tree.body if isinstance(node, ast.ImportFrom) for alias in node.names)
            for node in ast.walk(tree):
                if isinstance(node, ast.FunctionDef):
                    local = {inner.arg for inner in ast.walk(node) if isinstance(inner, ast.arg)}
                    local.update(inner.id for inner in ast.walk(node)
                                 if isinstance(inner, ast.Name) and isinstance(inner.ctx, ast.Store))
                    self.assertEqual(local & taken, set(), (file, node.name))

    def test_each_import_is_used_and_comes_from_the_file_that_defines_it(self):
        defined = {}
        for file, text, tree in self.walked():
            defined[file[:-3]] = {node.name for node in tree.body if isinstance(node, (ast.FunctionDef, ast.ClassDef))}
            defined[file[:-3]].update(node.targets[0].id for node in tree.body if isinstance(node, ast.Assign))
        for file, text, tree in self.walked():
            used = {node.id for node in ast.walk(tree) if isinstance(node, ast.Name)}
            for node in tree.body:
                if isinstance(node, ast.ImportFrom):
                    for alias in node.names:
                        self.assertIn(alias.name, defined[node.module.split(".")[1]], file)
                        self.assertIn(alias.name, used, file)

    def test_no_two_files_draw_from_one_another(self):
        drawn = {}
        for file, text, tree in self.walked():
            drawn[file[:-3]] = {node.module.split(".")[1] for node in tree.body if isinstance(node, ast.ImportFrom)}
        while drawn:
            free = [file for file, others in drawn.items() if not others & set(drawn)]
            self.assertNotEqual(free, [], drawn)
            drawn = {file: others for file, others in drawn.items() if file not in free}

    def test_walks_are_not_kept(self):
        walked = {"zip", "enumerate", "reversed", "range"}
        for file, text, tree in self.walked():
            for node in ast.walk(tree):
                if isinstance(node, (ast.Assign, ast.Return)) and isinstance(node.value, ast.Call):
                    called = node.value.func
                    self.assertFalse(isinstance(called, ast.Name) and called.id in walked, (file, node.lineno))

    def test_numbers_and_texts(self):
        for file, text, tree in self.walked():
            for node in ast.walk(tree):
                if isinstance(node, ast.BinOp) and isinstance(node.op, ast.Pow):
                    self.assertIsInstance(node.right, ast.Constant, (file, node.lineno))
                if isinstance(node, ast.Constant) and isinstance(node.value, str):
                    self.assertNotIn("%", node.value, (file, node.lineno))


if __name__ == "__main__":
    unittest.main()

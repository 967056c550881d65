"""The package keeps to the small part of Python it is written in, as far as a walk through its files can tell."""

import ast
import builtins
import os
import re
import unittest

import asalone

FOLDER = os.path.dirname(asalone.__file__)

ALLOWED_NODES = """Module FunctionDef ClassDef arguments arg Return Assign AugAssign For While If Raise Try
ExceptHandler ImportFrom alias Expr Pass Break Continue BoolOp And Or BinOp Add Sub Mult FloorDiv Mod Pow BitAnd
BitOr BitXor LShift RShift UnaryOp Not USub UAdd Invert Compare Eq NotEq Lt LtE Gt GtE Is IsNot In NotIn IfExp Call
keyword Attribute Subscript Slice Name Load Store Constant List Tuple Dict ListComp comprehension Lambda JoinedStr
FormattedValue""".split()

ALLOWED_BUILTINS = """len range enumerate zip min max sum abs sorted reversed int str bool list tuple dict set
frozenset isinstance ord repr any all divmod Exception ValueError TypeError KeyError IndexError LookupError
ZeroDivisionError ArithmeticError OverflowError RuntimeError NotImplementedError AttributeError
StopIteration""".split()

ALLOWED_METHODS = """append clear copy count endswith extend find get index insert isalnum isalpha isdigit islower
isspace isupper items join keys ljust lower lstrip partition pop remove replace reverse rfind rjust rpartition rsplit
rstrip setdefault split splitlines startswith strip update upper values zfill bit_length""".split()

ALLOWED_DUNDERS = "__init__ __eq__ __repr__ __str__ __len__".split()

NOWHERE = """type typing typing_extensions enum Enum IntEnum StrEnum Flag IntFlag Generic Protocol ABC ABCMeta
namedtuple NamedTuple TypedDict TYPE_CHECKING abstractmethod""".split()

NOT_NAMES = """register mro elements open input version_info with_traceback add_note attrgetter breakpoint builtins
compile copyright credits delattr dir eval exec exit gc getattr globals hasattr help id importlib license locals
methodcaller os quit setattr super type vars sys""".split()

OF_PYTHON = {name for kind in (str, int, list, dict, set, bytes, tuple) for name in dir(kind)}


def files():
    texts = {}
    for name in sorted(os.listdir(FOLDER)):
        if name != "__pycache__":
            with open(os.path.join(FOLDER, name), encoding="ascii", newline="") as file:
                texts[name[:-3]] = file.read()
    return texts


def trees():
    return {name: ast.parse(text) for name, text in files().items()}


def nodes(kinds):
    return [(name, node) for name, tree in trees().items() for node in ast.walk(tree) if isinstance(node, kinds)]


def own_methods():
    return {part.name for _, node in nodes(ast.ClassDef) for part in node.body if isinstance(part, ast.FunctionDef)}


def own_values():
    return {node.attr for _, node in nodes(ast.Attribute) if isinstance(node.ctx, ast.Store)}


def is_plain(node):
    if isinstance(node, ast.UnaryOp) and isinstance(node.op, ast.USub):
        node = node.operand
    if isinstance(node, ast.Tuple):
        return all(is_plain(part) for part in node.elts)
    return isinstance(node, (ast.Constant, ast.Name))


class Files(unittest.TestCase):
    def test_only_plainly_named_python_files(self):
        for name in os.listdir(FOLDER):
            if name != "__pycache__":
                self.assertRegex(name, r"^(__init__|[a-z][a-z0-9_]*)\.py$")
                self.assertNotIn(name[:-3], dir(builtins))

    def test_signs_and_sizes(self):
        for name, text in files().items():
            self.assertRegex(text, r"\A[\n -~]*\Z", name)
            self.assertLessEqual(len(text.splitlines()), 400, name)
            self.assertLessEqual(max(len(row) for row in text.splitlines()), 120, name)

    def test_functions_are_small(self):
        for name, node in nodes(ast.FunctionDef):
            self.assertLessEqual(node.end_lineno - node.lineno + 1, 40, f"{name}.{node.name}")

    def test_words_that_stand_nowhere(self):
        for name, text in files().items():
            self.assertEqual([word for word in NOWHERE if re.search(rf"\b{word}\b", text)], [], name)
            self.assertIsNone(re.search("dataclass|overload|contextmanager", text), name)


class Rows(unittest.TestCase):
    def test_only_the_allowed_forms(self):
        for name, node in nodes(ast.AST):
            self.assertIn(node.__class__.__name__, ALLOWED_NODES, f"{name} row {getattr(node, 'lineno', 0)}")

    def test_the_top_of_a_file(self):
        for name, tree in trees().items():
            bound = []
            for node in tree.body[1:]:
                self.assertIsInstance(node, (ast.ImportFrom, ast.FunctionDef, ast.ClassDef, ast.Assign), name)
                if isinstance(node, ast.Assign):
                    self.assertTrue(is_plain(node.value), f"{name} row {node.lineno}")
                    bound.append(node.targets[0].id)
                elif isinstance(node, ast.ImportFrom):
                    bound += [alias.name for alias in node.names]
                else:
                    bound.append(node.name)
            self.assertIsNotNone(ast.get_docstring(tree), name)
            self.assertEqual(len(bound), len(set(bound)), name)

    def test_imports(self):
        drawn = {name: [] for name in trees()}
        for name, node in nodes(ast.ImportFrom):
            self.assertEqual(node.level, 0, name)
            self.assertRegex(node.module, r"^asalone\.[a-z_]+$")
            source = node.module.split(".")[1]
            drawn[name].append(source)
            defined = [part.name for part in trees()[source].body if isinstance(part, (ast.FunctionDef, ast.ClassDef))]
            defined += [part.targets[0].id for part in trees()[source].body if isinstance(part, ast.Assign)]
            for alias in node.names:
                self.assertIn(alias.name, defined)
                self.assertIsNone(alias.asname)
        while drawn:
            ends = [name for name in drawn if not any(source in drawn for source in drawn[name])]
            self.assertTrue(ends, f"files draw from one another: {drawn}")
            drawn = {name: sources for name, sources in drawn.items() if name not in ends}

    def test_parameters(self):
        for name, node in nodes((ast.FunctionDef, ast.Lambda)):
            given = node.args
            self.assertFalse(given.vararg or given.kwarg or given.kwonlyargs or given.posonlyargs, name)
            if isinstance(node, ast.FunctionDef):
                self.assertEqual(node.decorator_list, [], name)

    def test_assignments_have_one_target(self):
        for name, node in nodes(ast.Assign):
            self.assertEqual(len(node.targets), 1, f"{name} row {node.lineno}")
            self.assertNotIsInstance(node.targets[0], (ast.Tuple, ast.List), f"{name} row {node.lineno}")

    def test_loops_have_no_else_and_numbers_no_point(self):
        for name, node in nodes((ast.For, ast.While)):
            self.assertEqual(node.orelse, [], name)
        for name, node in nodes(ast.Constant):
            self.assertTrue(node.value is None or isinstance(node.value, (int, str)), name)

    def test_is_stands_beside_none_true_false(self):
        for name, node in nodes(ast.Compare):
            if any(isinstance(op, (ast.Is, ast.IsNot)) for op in node.ops):
                self.assertTrue(any(isinstance(part, ast.Constant) and part.value in (None, True, False)
                                    for part in [node.left] + node.comparators), name)


class Names(unittest.TestCase):
    def test_no_other_name_of_pythons_own(self):
        for name, node in nodes(ast.Name):
            self.assertNotIn(node.id, NOT_NAMES, name)
            if node.id in dir(builtins):
                self.assertIn(node.id, ALLOWED_BUILTINS, name)
                self.assertIsInstance(node.ctx, ast.Load, name)

    def test_plain_names(self):
        for name, node in nodes((ast.Name, ast.arg, ast.Attribute, ast.FunctionDef, ast.ClassDef)):
            word = {ast.Name: "id", ast.arg: "arg", ast.Attribute: "attr"}.get(node.__class__, "name")
            word = getattr(node, word)
            if word not in ALLOWED_DUNDERS:
                self.assertRegex(word, r"^[A-Za-z][A-Za-z0-9_]*$", name)

    def test_parameters_and_locals_are_not_called_like_others(self):
        for name, tree in trees().items():
            taken = set(dir(builtins))
            for node in tree.body:
                if isinstance(node, (ast.ClassDef, ast.FunctionDef)):
                    taken.add(node.name)
                elif isinstance(node, ast.ImportFrom):
                    taken.update(alias.name for alias in node.names)
            for node in ast.walk(tree):
                if isinstance(node, ast.arg):
                    self.assertNotIn(node.arg, taken, name)
                elif isinstance(node, ast.Name) and isinstance(node.ctx, ast.Store):
                    self.assertNotIn(node.id, taken, name)

    def test_methods_called(self):
        for name, node in nodes(ast.Call):
            if isinstance(node.func, ast.Attribute):
                self.assertIn(node.func.attr, ALLOWED_METHODS + sorted(own_methods()), name)

    def test_own_methods_and_values(self):
        self.assertEqual(own_methods() & own_values(), set())
        self.assertEqual((own_methods() - set(ALLOWED_DUNDERS)) & OF_PYTHON, set())
        self.assertEqual(own_values() & OF_PYTHON, set())
        self.assertEqual((own_methods() | own_values()) & set(NOT_NAMES[:8]), set())

    def test_what_classes_stand_on(self):
        for name, node in nodes(ast.ClassDef):
            self.assertLessEqual(len(node.bases), 1, name)
            for part in node.body:
                self.assertIsInstance(part, (ast.FunctionDef, ast.Expr), name)


if __name__ == "__main__":
    unittest.main()

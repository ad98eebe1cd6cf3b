"""The package held against LANGUAGE.md; of L15, L22 and L23 what calls and loops may change is left to the reader."""

import ast
import builtins
import pathlib
import re
import unittest

FOLDER = pathlib.Path(__file__).resolve().parent.parent / "rollmend"

KNOWN_NAMES = set(
    "len range enumerate zip min max sum abs sorted reversed int str bool list tuple dict set frozenset isinstance "
    "ord repr any all divmod Exception ValueError TypeError KeyError IndexError LookupError ZeroDivisionError "
    "ArithmeticError OverflowError RuntimeError NotImplementedError AttributeError StopIteration".split())
KNOWN_METHODS = set(
    "append clear copy count endswith extend find get index insert isalnum isalpha isdigit islower isspace isupper "
    "items join keys ljust lower lstrip partition pop remove replace reverse rfind rjust rpartition rsplit rstrip "
    "setdefault split splitlines startswith strip update upper values zfill bit_length".split())
UNUSED_WORDS = re.compile(
    r"\b(type|typing|typing_extensions|enum|Enum|IntEnum|StrEnum|Flag|IntFlag|Generic|Protocol|ABC|ABCMeta|namedtuple|"
    r"NamedTuple|TypedDict|TYPE_CHECKING|abstractmethod)\b|dataclass|overload|contextmanager")
UNUSED_NAMES = set(
    "register mro elements open input version_info with_traceback add_note attrgetter breakpoint builtins compile "
    "copyright credits delattr dir eval exec exit gc getattr globals hasattr help id importlib license locals "
    "methodcaller os quit setattr super vars sys chr print".split())
PLAIN_NODES = tuple(getattr(ast, name) for name in (
    "Module ImportFrom alias FunctionDef arguments arg ClassDef Assign AugAssign If While For Return Break Continue "
    "Pass Raise Try ExceptHandler Expr BoolOp And Or UnaryOp Not USub UAdd Invert BinOp Add Sub Mult FloorDiv Mod Pow "
    "BitAnd BitOr BitXor LShift RShift Compare Eq NotEq Lt LtE Gt GtE Is IsNot In NotIn IfExp Call keyword Attribute "
    "Subscript Slice List Tuple Dict ListComp comprehension JoinedStr FormattedValue Lambda Name Load Store Constant"
).split())
WALKED = ("zip", "enumerate", "reversed", "range")
WALKERS = ("list", "tuple", "dict", "sorted", "sum", "any", "all", "enumerate", "zip", "min", "max")


def sources():
    return {path.stem: path.read_text(encoding="utf-8") for path in sorted(FOLDER.glob("*.py"))}


def trees():
    return {name: ast.parse(source) for name, source in sources().items()}


def nodes(kind):
    for name, tree in trees().items():
        for node in ast.walk(tree):
            if isinstance(node, kind):
                yield name, node


def defined(tree):
    names = []
    for node in tree.body:
        if isinstance(node, (ast.FunctionDef, ast.ClassDef)):
            names.append(node.name)
        elif isinstance(node, ast.Assign):
            names.append(node.targets[0].id)
    return names


def imports(tree):
    return [node for node in tree.body if isinstance(node, ast.ImportFrom)]


class Files(unittest.TestCase):
    def test_nothing_else_in_the_folder(self):
        for path in FOLDER.iterdir():
            if path.name != "__pycache__":
                self.assertTrue(path.is_file(), path)
                self.assertRegex(path.name, r"^(__init__|[a-z][a-z0-9_]*)\.py$")
                self.assertNotIn(path.stem, dir(builtins), path)
                self.assertNotRegex(path.stem, r"^(tests?|testing|test_.*|site|conftest|sitecustomize|usercustomize)$")

    def test_signs_and_sizes(self):
        for name, source in sources().items():
            self.assertRegex(source, r"\A[ -~\n]*\Z", name)
            self.assertIsNone(UNUSED_WORDS.search(source), name)
            rows = source.split("\n")
            self.assertLessEqual(len(rows), 400, name)
            for number, row in enumerate(rows, start=1):
                self.assertLessEqual(len(row), 120, (name, number))
        for name, node in nodes(ast.FunctionDef):
            self.assertLessEqual(node.end_lineno - node.lineno + 1, 40, (name, node.name))

    def test_the_first_file_draws_from_none(self):
        self.assertEqual(len(trees()["__init__"].body), 1)


class Tops(unittest.TestCase):
    def test_what_stands_there(self):
        for name, tree in trees().items():
            self.assertIsNotNone(ast.get_docstring(tree), name)
            for node in tree.body[1:]:
                self.assertIsInstance(node, (ast.ImportFrom, ast.FunctionDef, ast.ClassDef, ast.Assign), name)
                if isinstance(node, ast.Assign):
                    ast.literal_eval(node.value)

    def test_each_name_once(self):
        for name, tree in trees().items():
            names = defined(tree) + [alias.name for node in imports(tree) for alias in node.names]
            self.assertEqual(len(names), len(set(names)), name)

    def test_imports(self):
        files = trees()
        for name, node in nodes(ast.ImportFrom):
            self.assertEqual(node.level, 0, name)
            self.assertRegex(node.module, r"^rollmend\.[a-z]+$", name)
            for alias in node.names:
                self.assertIsNone(alias.asname, name)
                self.assertIn(alias.name, defined(files[node.module.split(".")[1]]), name)

    def test_no_two_files_draw_from_one_another(self):
        drawn = {name: {node.module.split(".")[1] for node in imports(tree)} for name, tree in trees().items()}
        while drawn:
            free = [name for name in drawn if not drawn[name] & set(drawn)]
            self.assertTrue(free, drawn)
            for name in free:
                drawn.pop(name)


class Bodies(unittest.TestCase):
    def test_nodes(self):
        for name, node in nodes(ast.AST):
            self.assertIsInstance(node, PLAIN_NODES, (name, getattr(node, "lineno", 0)))

    def test_functions(self):
        for name, node in nodes((ast.FunctionDef, ast.Lambda)):
            given = node.args
            self.assertFalse(given.vararg or given.kwarg or given.kwonlyargs or given.posonlyargs, name)
            self.assertFalse([one for one in given.args if one.annotation], name)
            self.assertFalse(getattr(node, "decorator_list", []) or getattr(node, "returns", None), name)

    def test_classes(self):
        for name, node in nodes(ast.ClassDef):
            self.assertLessEqual(len(node.bases), 1, name)
            self.assertFalse(node.keywords or node.decorator_list, name)
            for inner in node.body:
                self.assertIsInstance(inner, (ast.Pass, ast.FunctionDef), name)

    def test_statements(self):
        for name, node in nodes(ast.Assign):
            self.assertEqual(len(node.targets), 1, (name, node.lineno))
        for name, node in nodes((ast.For, ast.While)):
            self.assertFalse(node.orelse, (name, node.lineno))
        for name, tree in trees().items():
            for node in ast.walk(tree):
                if isinstance(node, ast.Expr) and node is not tree.body[0]:
                    self.assertIsInstance(node.value, ast.Call, (name, node.lineno))
        for name, node in nodes(ast.Try):
            self.assertFalse(node.finalbody, (name, node.lineno))

    def test_values(self):
        for name, node in nodes(ast.Constant):
            self.assertIsInstance(node.value, (int, str, type(None)), (name, node.lineno))
            if isinstance(node.value, str):
                self.assertNotIn("\x25", node.value, (name, node.lineno))
        for name, node in nodes(ast.ListComp):
            self.assertEqual(len(node.generators), 1, (name, node.lineno))
            self.assertLessEqual(len(node.generators[0].ifs), 1, (name, node.lineno))
        for name, node in nodes(ast.FormattedValue):
            self.assertIsInstance(node.value, ast.Name, (name, node.lineno))
        for name, node in nodes(ast.BinOp):
            if isinstance(node.op, ast.Pow):
                self.assertIn(getattr(node.right, "value", None), range(65), (name, node.lineno))

    def test_is_beside_plain_values_alone(self):
        for name, node in nodes(ast.Compare):
            for sign, right in zip(node.ops, node.comparators):
                if isinstance(sign, (ast.Is, ast.IsNot)):
                    self.assertIn(ast.unparse(right), ("None", "True", "False"), (name, node.lineno))


class Names(unittest.TestCase):
    def test_form_of_names(self):
        for name, node in nodes((ast.Name, ast.arg, ast.FunctionDef, ast.ClassDef, ast.Attribute)):
            word = getattr(node, "id", None) or getattr(node, "arg", None) or getattr(node, "name", None) or node.attr
            self.assertRegex(word, r"^[A-Za-z][A-Za-z0-9_]*$", (name, node.lineno))
            self.assertNotIn(word, UNUSED_NAMES, (name, node.lineno))

    def test_python_names_are_read_alone(self):
        for name, tree in trees().items():
            taken = {alias.name for node in imports(tree) for alias in node.names}
            taken |= {node.name for node in tree.body if isinstance(node, ast.ClassDef)}
            for node in ast.walk(tree):
                bound = getattr(node, "arg", None) if isinstance(node, ast.arg) else None
                if isinstance(node, ast.Name) and isinstance(node.ctx, ast.Store):
                    bound = node.id
                if bound is not None:
                    self.assertNotIn(bound, dir(builtins), (name, node.lineno))
                    self.assertNotIn(bound, taken, (name, node.lineno))

    def test_known_names_alone(self):
        for name, node in nodes(ast.Name):
            if node.id in dir(builtins):
                self.assertIn(node.id, KNOWN_NAMES, (name, node.lineno))

    def test_known_methods_alone(self):
        for name, tree in trees().items():
            called = {id(node.func) for node in ast.walk(tree) if isinstance(node, ast.Call)}
            for node in ast.walk(tree):
                if isinstance(node, ast.Attribute):
                    self.assertIn(node.attr, KNOWN_METHODS, (name, node.lineno))
                    self.assertIn(id(node), called, (name, node.lineno))

    def test_walked_on_the_spot(self):
        for name, tree in trees().items():
            walked = set()
            for node in ast.walk(tree):
                if isinstance(node, (ast.For, ast.comprehension)):
                    walked.add(id(node.iter))
                if isinstance(node, ast.Call) and isinstance(node.func, ast.Name) and node.func.id in WALKERS:
                    walked |= {id(given) for given in node.args}
            for node in ast.walk(tree):
                if isinstance(node, ast.Call) and isinstance(node.func, ast.Name) and node.func.id in WALKED:
                    self.assertIn(id(node), walked, (name, node.lineno))


class NotUsed(unittest.TestCase):
    """L13, L19, L24, L26 and L28 bound what the package does not use at all."""

    def test_no_sets(self):
        for name, node in nodes(ast.Name):
            self.assertNotIn(node.id, ("set", "frozenset"), (name, node.lineno))

    def test_no_try_and_no_lambda(self):
        for name, node in nodes((ast.Try, ast.Lambda)):
            self.fail((name, node.lineno))

    def test_no_methods(self):
        for name, node in nodes(ast.ClassDef):
            self.assertEqual([inner.__class__ for inner in node.body], [ast.Pass], (name, node.lineno))

    def test_classes_are_bases_or_raised(self):
        classes = {node.name for _, node in nodes(ast.ClassDef)}
        for name, tree in trees().items():
            met = set()
            for node in ast.walk(tree):
                if isinstance(node, ast.ClassDef):
                    met |= {id(base) for base in node.bases}
                if isinstance(node, ast.Raise):
                    self.assertIsInstance(node.exc, ast.Call, (name, node.lineno))
                    self.assertIn(node.exc.func.id, classes, (name, node.lineno))
                    met.add(id(node.exc.func))
            for node in ast.walk(tree):
                if isinstance(node, ast.Name) and node.id in classes:
                    self.assertIn(id(node), met, (name, node.lineno))

    def test_no_keywords_and_no_list_at_a_top(self):
        for name, node in nodes(ast.keyword):
            self.fail((name, node.value.lineno))
        for name, tree in trees().items():
            for node in tree.body:
                if isinstance(node, ast.Assign):
                    self.assertIsInstance(node.value, ast.Constant, (name, node.lineno))


if __name__ == "__main__":
    unittest.main()

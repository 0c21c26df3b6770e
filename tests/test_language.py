"""The form of the package's files, as far as it can be seen file by file."""

import ast
import builtins
import pathlib
import re
import unittest

PACKAGE = pathlib.Path(__file__).resolve().parent.parent / "runrelations"
FILES = sorted(PACKAGE.rglob("*.py"))
TREES = {path.name: ast.parse(path.read_text(encoding="ascii")) for path in FILES}

NODES = (
    "Module Import ImportFrom alias FunctionDef ClassDef Lambda arguments arg Expr Assign AugAssign If While For Return "
    "Break Continue Pass Raise Try ExceptHandler Call Constant Name Load Store Tuple List Dict Set BinOp UnaryOp "
    "BoolOp Compare IfExp Attribute Subscript Slice ListComp comprehension JoinedStr FormattedValue keyword "
    "Add Sub Mult FloorDiv Mod Pow BitAnd BitOr BitXor LShift RShift Invert And Or Not USub UAdd "
    "Eq NotEq Lt LtE Gt GtE Is IsNot In NotIn"
).split()
BUILTINS = (
    "len range enumerate zip min max sum abs sorted reversed int str bool list tuple dict set frozenset isinstance "
    "ord repr any all divmod Exception ValueError TypeError KeyError IndexError LookupError ZeroDivisionError "
    "ArithmeticError OverflowError RuntimeError NotImplementedError AttributeError StopIteration"
).split()
WORDS = (
    "type typing typing_extensions enum Enum IntEnum StrEnum Flag IntFlag Generic Protocol ABC ABCMeta namedtuple "
    "NamedTuple TypedDict TYPE_CHECKING abstractmethod"
).split()
NEVER = "register mro elements open input version_info with_traceback add_note format format_map".split()
METHODS = (
    "append clear copy count endswith extend find get index insert isalnum isalpha isdigit islower isspace isupper "
    "items join keys ljust lower lstrip partition pop remove replace reverse rfind rjust rpartition rsplit rstrip "
    "setdefault split splitlines startswith strip update upper values zfill bit_length"
).split()


def nodes():
    for name, tree in TREES.items():
        for node in ast.walk(tree):
            yield name, node


def defs(tree):
    return [node for node in tree.body if isinstance(node, ast.FunctionDef)]


def classes(tree):
    return [node for node in tree.body if isinstance(node, ast.ClassDef)]


class Form(unittest.TestCase):
    def test_files(self):
        held = [path for path in PACKAGE.rglob("*") if "__pycache__" not in path.parts]
        self.assertEqual(sorted(held), FILES)
        for path in FILES:
            self.assertRegex(path.name, r"^[a-z][a-z0-9_]*\.py$|^__init__\.py$")

    def test_lines_and_signs(self):
        for path in FILES:
            with self.subTest(path.name):
                written = path.read_text(encoding="utf-8")
                lines = written.split("\n")
                self.assertRegex(written, r"\A[ -~\n]*\Z")
                self.assertLessEqual(len(lines), 399)
                self.assertLessEqual(max(len(line) for line in lines), 120)
                for word in WORDS:
                    self.assertIsNone(re.search(rf"\b{word}\b", written), word)
                self.assertIsNone(re.search("dataclass|overload|contextmanager", written))

    def test_kinds_of_statement_and_expression(self):
        for name, node in nodes():
            with self.subTest(name, line=getattr(node, "lineno", None)):
                self.assertIn(node.__class__.__name__, NODES)
                if isinstance(node, ast.Constant):
                    self.assertIn(node.value.__class__.__name__, ("int", "str", "bool", "NoneType"))
                if isinstance(node, ast.Assign):
                    self.assertEqual(len(node.targets), 1)
                if isinstance(node, (ast.While, ast.For)):
                    self.assertEqual(node.orelse, [])
                if isinstance(node, ast.Try):
                    self.assertEqual(node.finalbody, [])
                if isinstance(node, ast.ListComp):
                    self.assertEqual(len(node.generators), 1)
                    self.assertLessEqual(len(node.generators[0].ifs), 1)

    def test_imports(self):
        drawn = {}
        for name, tree in TREES.items():
            drawn[name] = []
            for node in ast.walk(tree):
                self.assertNotIsInstance(node, ast.Import)
                if isinstance(node, ast.ImportFrom):
                    self.assertIn(node, tree.body)
                    self.assertEqual(node.level, 0)
                    package, file = node.module.split(".")
                    self.assertEqual(package, "runrelations")
                    drawn[name].append(file + ".py")
                    bound = [part.name for part in defs(TREES[file + ".py"]) + classes(TREES[file + ".py"])]
                    for part in TREES[file + ".py"].body:
                        if isinstance(part, ast.Assign):
                            bound.append(part.targets[0].id)
                    for part in node.names:
                        self.assertIsNone(part.asname)
                        self.assertIn(part.name, bound)
        self.assertEqual(drawn["__init__.py"], [])
        while drawn:
            free = [name for name in drawn if not any(other in drawn for other in drawn[name])]
            self.assertNotEqual(free, [], "files that draw from one another")
            for name in free:
                del drawn[name]

    def test_tops(self):
        for name, tree in TREES.items():
            with self.subTest(name):
                self.assertIsNotNone(ast.get_docstring(tree))
                allowed = (ast.ImportFrom, ast.FunctionDef, ast.ClassDef, ast.Assign)
                for node in tree.body[1:]:
                    self.assertIsInstance(node, allowed)
                bound = [node.name for node in defs(tree) + classes(tree)]
                bound += [node.targets[0].id for node in tree.body if isinstance(node, ast.Assign)]
                self.assertEqual(len(bound), len(set(bound)))
        self.assertEqual(len(TREES["__init__.py"].body), 1)
        holders = [name for name, tree in TREES.items() for node in defs(tree) if node.name == "answers"]
        self.assertEqual(holders, ["relations.py"])

    def test_functions(self):
        for name, node in nodes():
            if isinstance(node, ast.FunctionDef):
                with self.subTest(name, function=node.name):
                    self.assertLessEqual(node.end_lineno - node.lineno + 1, 40)
                    self.assertEqual(node.decorator_list, [])
                    if node.name != "__init__":
                        self.assertIsNotNone(ast.get_docstring(node))
                    given = node.args
                    self.assertEqual((given.vararg, given.kwarg, given.kwonlyargs, given.posonlyargs), (None, None, [], []))

    def test_names(self):
        for name, node in nodes():
            bound = []
            if isinstance(node, (ast.FunctionDef, ast.ClassDef)) and node.name != "__init__":
                bound.append(node.name)
            if isinstance(node, ast.arg):
                bound.append(node.arg)
            if isinstance(node, ast.Name) and isinstance(node.ctx, ast.Store):
                bound.append(node.id)
            if isinstance(node, ast.ExceptHandler) and node.name:
                bound.append(node.name)
            for one in bound:
                with self.subTest(name, bound=one):
                    self.assertRegex(one, "^[A-Za-z][A-Za-z0-9_]*$")
                    self.assertFalse(hasattr(builtins, one))
                    self.assertNotIn(one, NEVER)
            if isinstance(node, ast.Name) and hasattr(builtins, node.id):
                with self.subTest(name, used=node.id):
                    self.assertIn(node.id, BUILTINS)

    def test_locals_are_called_unlike_what_a_file_draws_in(self):
        for name, tree in TREES.items():
            drawn = {part.name for node in tree.body if isinstance(node, ast.ImportFrom) for part in node.names}
            drawn.update(node.name for node in classes(tree))
            for node in ast.walk(tree):
                if isinstance(node, ast.arg):
                    self.assertNotIn(node.arg, drawn, name)
                if isinstance(node, ast.Name) and isinstance(node.ctx, ast.Store):
                    self.assertNotIn(node.id, drawn, name)

    def test_methods_and_values(self):
        kinds = [node for tree in TREES.values() for node in classes(tree)]
        methods = {part.name for node in kinds for part in node.body if isinstance(part, ast.FunctionDef)}
        methods.discard("__init__")
        values = set()
        for name, node in nodes():
            if isinstance(node, ast.Attribute):
                self.assertNotIn(node.attr, NEVER)
                if isinstance(node.ctx, ast.Store):
                    values.add(node.attr)
            if isinstance(node, ast.Call) and isinstance(node.func, ast.Attribute):
                with self.subTest(name, called=node.func.attr):
                    self.assertIn(node.func.attr, [*METHODS, *methods, "__init__"])
        self.assertEqual(methods & values, set())
        own = {name for value in ("", 0, [], {}, set(), b"") for name in dir(value)}
        self.assertEqual((methods | values) & own, set())


if __name__ == "__main__":
    unittest.main()

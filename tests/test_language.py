"""The rules of the language that can be seen by a walk through the package's files."""

import ast
import builtins
import pathlib
import re
import unittest

PACKAGE = pathlib.Path(__file__).resolve().parent.parent / "handsback"

ALLOWED_NODES = """Module Expr Constant ImportFrom alias FunctionDef ClassDef arguments arg Assign AugAssign If While For
Return Break Continue Pass Raise Try ExceptHandler Call Attribute Subscript Slice Name Load Store List Tuple Dict Set
ListComp comprehension BinOp UnaryOp BoolOp Compare IfExp Lambda JoinedStr FormattedValue keyword Add Sub Mult FloorDiv
Mod Pow BitAnd BitOr BitXor Invert LShift RShift USub UAdd Not And Or Eq NotEq Lt LtE Gt GtE Is IsNot In NotIn""".split()

ALLOWED_BUILTINS = """len range enumerate zip min max sum abs sorted reversed int str bool list tuple dict set frozenset
isinstance ord repr any all divmod Exception ValueError TypeError KeyError IndexError LookupError ZeroDivisionError
ArithmeticError OverflowError RuntimeError NotImplementedError AttributeError StopIteration""".split()

ALLOWED_METHODS = """append clear copy count endswith extend find get index insert isalnum isalpha isdigit islower isspace
isupper items join keys ljust lower lstrip partition pop remove replace reverse rfind rjust rpartition rsplit rstrip
setdefault split splitlines startswith strip update upper values zfill bit_length""".split()

UNWRITTEN = """type typing typing_extensions enum Enum IntEnum StrEnum Flag IntFlag Generic Protocol ABC ABCMeta namedtuple
NamedTuple TypedDict TYPE_CHECKING abstractmethod""".split()

OWN_DOUBLE = ("__init__", "__eq__", "__repr__", "__str__", "__len__")


def sources():
    return {path.name: path.read_bytes() for path in sorted(PACKAGE.rglob("*")) if path.suffix == ".py"}


def nodes():
    for name, source in sources().items():
        for node in ast.walk(ast.parse(source)):
            yield f"{name}:{getattr(node, 'lineno', 0)}", node


class Language(unittest.TestCase):
    def test_files(self):
        names = [path.name for path in PACKAGE.rglob("*") if "__pycache__" not in path.parts]
        self.assertIn("__init__.py", names)
        for name in names:
            self.assertRegex(name, r"^[a-z0-9_]+\.py$")

    def test_signs_and_sizes(self):
        for name, source in sources().items():
            self.assertRegex(source, rb"^[ -~\n]*$", name)
            rows = source.decode().split("\n")
            self.assertLessEqual(len(rows), 400, name)
            self.assertLessEqual(max(len(row) for row in rows), 120, name)
            written = set(re.findall(r"\w+", source.decode()))
            self.assertEqual(written & set(UNWRITTEN), set(), name)

    def test_functions_are_short(self):
        for place, node in nodes():
            if isinstance(node, ast.FunctionDef):
                self.assertLessEqual(node.end_lineno - node.lineno + 1, 40, place)
                self.assertEqual(node.decorator_list, [], place)

    def test_statements_and_expressions(self):
        for place, node in nodes():
            self.assertIn(node.__class__.__name__, ALLOWED_NODES, place)
            if isinstance(node, ast.Assign):
                self.assertEqual(len(node.targets), 1, place)
            if isinstance(node, (ast.For, ast.While)):
                self.assertEqual(node.orelse, [], place)
            if isinstance(node, ast.ListComp):
                self.assertEqual(len(node.generators), 1, place)
                self.assertLessEqual(len(node.generators[0].ifs), 1, place)
            if isinstance(node, ast.Constant):
                self.assertNotIsInstance(node.value, (float, complex, bytes), place)

    def test_imports_are_the_packages_own(self):
        for place, node in nodes():
            if isinstance(node, ast.ImportFrom):
                self.assertEqual(node.level, 0, place)
                self.assertTrue(node.module.startswith("handsback."), place)
                self.assertNotIn("*", [entry.name for entry in node.names], place)

    def test_names(self):
        for place, node in nodes():
            if isinstance(node, ast.Name):
                self.assertFalse(node.id.startswith("_"), place)
                if hasattr(builtins, node.id):
                    self.assertIsInstance(node.ctx, ast.Load, place)
                    self.assertIn(node.id, ALLOWED_BUILTINS, place)
            if isinstance(node, ast.arg):
                self.assertFalse(hasattr(builtins, node.arg) or node.arg.startswith("_"), place)
            if isinstance(node, ast.FunctionDef) and node.name not in OWN_DOUBLE:
                self.assertFalse(hasattr(builtins, node.name) or node.name.startswith("_"), place)

    def test_each_name_once_at_the_top_and_no_local_like_an_import(self):
        for name, source in sources().items():
            body = ast.parse(source).body
            imported = [entry.name for node in body if isinstance(node, ast.ImportFrom) for entry in node.names]
            classes = [node.name for node in body if isinstance(node, ast.ClassDef)]
            defs = [node.name for node in body if isinstance(node, ast.FunctionDef)]
            given = [node.targets[0].id for node in body if isinstance(node, ast.Assign)]
            bound = imported + classes + defs + given
            self.assertEqual(sorted(set(bound)), sorted(bound), name)
            for function in (node for node in ast.walk(ast.parse(source)) if isinstance(node, ast.FunctionDef)):
                local = {node.id for node in ast.walk(function)
                         if isinstance(node, ast.Name) and isinstance(node.ctx, ast.Store)}
                local |= {node.arg for node in ast.walk(function) if isinstance(node, ast.arg)}
                self.assertEqual(local & set(bound), set(), f"{name}: {function.name}")

    def test_files_draw_from_one_another_one_way(self):
        order = ["__init__.py", "deeds.py", "trees.py", "house.py", "desks.py"]
        self.assertEqual(sorted(order), sorted(sources()))
        for place, node in nodes():
            if isinstance(node, ast.ImportFrom):
                drawn = node.module.split(".")[1] + ".py"
                self.assertLess(order.index(drawn), order.index(place.split(":")[0]), place)

    def test_is_beside_none_true_and_false_alone(self):
        for place, node in nodes():
            if isinstance(node, ast.Compare) and any(isinstance(sign, (ast.Is, ast.IsNot)) for sign in node.ops):
                ends = [end for end in [node.left, *node.comparators] if isinstance(end, ast.Constant)]
                self.assertTrue(any(end.value is None or end.value in (True, False) for end in ends), place)

    def test_no_set_and_no_annotation(self):
        for place, node in nodes():
            self.assertNotIsInstance(node, ast.Set, place)
            if isinstance(node, ast.Name):
                self.assertNotIn(node.id, ("set", "frozenset"), place)
            if isinstance(node, ast.FunctionDef):
                self.assertIsNone(node.returns, place)
            if isinstance(node, ast.arg):
                self.assertIsNone(node.annotation, place)

    def test_what_is_only_walked_is_walked_at_once(self):
        lazy = ("zip", "enumerate", "reversed", "range")
        for name, source in sources().items():
            walked = [node.iter for node in ast.walk(ast.parse(source)) if isinstance(node, (ast.For, ast.comprehension))]
            made = [node for node in ast.walk(ast.parse(source)) if isinstance(node, ast.Call)
                    and isinstance(node.func, ast.Name) and node.func.id in lazy]
            self.assertLessEqual({node.lineno for node in made}, {node.lineno for node in walked}, name)

    def test_no_sign_of_percent_within_a_text(self):
        for place, node in nodes():
            if isinstance(node, ast.Constant) and isinstance(node.value, str):
                self.assertNotIn(chr(37), node.value, place)

    def test_methods_and_values_have_names_of_their_own(self):
        methods = {entry.name for place, node in nodes() if isinstance(node, ast.ClassDef)
                   for entry in node.body if isinstance(entry, ast.FunctionDef)}
        stored = {node.attr for place, node in nodes()
                  if isinstance(node, ast.Attribute) and isinstance(node.ctx, ast.Store)}
        self.assertEqual(methods & stored, set())
        for place, node in nodes():
            if isinstance(node, ast.Attribute):
                self.assertIn(node.attr, methods | stored | set(ALLOWED_METHODS), place)


if __name__ == "__main__":
    unittest.main()

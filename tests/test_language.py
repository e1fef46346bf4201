"""The package's own files keep to the small part of Python that the program is written in.

Only what can be told from the files themselves is looked at here.
"""

import ast
import os
import re
import unittest

FOLDER = os.path.join(os.path.dirname(os.path.dirname(os.path.abspath(__file__))), "cutstreams")

NODES = {
    "Module", "FunctionDef", "arguments", "arg", "Lambda", "ClassDef", "ImportFrom", "alias", "Assign", "AugAssign",
    "If", "While", "For", "Return", "Break", "Continue", "Pass", "Raise", "Try", "ExceptHandler", "Expr", "Call",
    "keyword", "Constant", "Name", "Attribute", "Subscript", "Slice", "List", "Tuple", "Dict", "Load", "Store",
    "BinOp", "UnaryOp", "BoolOp", "Compare", "IfExp", "ListComp", "comprehension", "JoinedStr", "FormattedValue",
    "Add", "Sub", "Mult", "FloorDiv", "Mod", "LShift", "RShift", "BitAnd", "BitOr", "BitXor", "Invert", "USub", "Not",
    "And", "Or", "Eq", "NotEq", "Lt", "LtE", "Gt", "GtE", "In", "NotIn", "Is", "IsNot"}
BUILT_IN = set("""len range enumerate zip min max sum abs sorted reversed int str bool list tuple dict set frozenset
    isinstance ord repr any all divmod Exception ValueError TypeError KeyError IndexError LookupError
    ZeroDivisionError ArithmeticError OverflowError RuntimeError NotImplementedError AttributeError
    StopIteration""".split())
NOT_BOUND = set(dir(__builtins__) if not isinstance(__builtins__, dict) else __builtins__)
NOWHERE = re.compile(r"\b(type|typing|typing_extensions|enum|Enum|IntEnum|StrEnum|Flag|IntFlag|Generic|Protocol|ABC|"
                     r"ABCMeta|namedtuple|NamedTuple|TypedDict|TYPE_CHECKING|abstractmethod)\b|"
                     r"dataclass|overload|contextmanager")
NOT_USED = {"register", "mro", "elements", "open", "input", "version_info", "with_traceback", "add_note", "format",
            "format_map"}
METHODS = set("""append clear copy count endswith extend find get index insert isalnum isalpha isdigit islower isspace
    isupper items join keys ljust lower lstrip partition pop remove replace reverse rfind rjust rpartition rsplit
    rstrip setdefault split splitlines startswith strip update upper values zfill bit_length""".split())
PYTHONS_OWN = {name for kind in (str, int, list, tuple, dict, set, bytes) for name in dir(kind)}


def files():
    return sorted(name for name in os.listdir(FOLDER) if name != "__pycache__")


def text_of(name):
    with open(os.path.join(FOLDER, name), encoding="utf-8") as file:
        return file.read()


class Language(unittest.TestCase):

    def walked(self):
        for name in files():
            for node in ast.walk(ast.parse(text_of(name))):
                yield name, node

    def test_only_python_files_lie_in_the_package(self):
        for name in files():
            self.assertRegex(name, r"^[a-z_][a-z0-9_]*\.py$")
        self.assertIn("__init__.py", files())
        self.assertIn("keeper.py", files())

    def test_signs_words_and_lengths(self):
        for name in files():
            text = text_of(name)
            self.assertRegex(text, r"\A[ -~\n]*\Z", name)
            self.assertIsNone(NOWHERE.search(text), name)
            rows = text.split("\n")
            self.assertLessEqual(len(rows), 400, name)
            self.assertLessEqual(max(len(row) for row in rows), 120, name)

    def test_functions_are_short(self):
        for name, node in self.walked():
            if isinstance(node, ast.FunctionDef):
                self.assertLessEqual(node.end_lineno - node.lineno + 1, 40, (name, node.name))
                self.assertEqual(node.decorator_list, [])

    def test_only_the_forms_that_are_told(self):
        for name, node in self.walked():
            self.assertIn(node.__class__.__name__, NODES, (name, getattr(node, "lineno", 0)))

    def test_imports_are_the_packages_own(self):
        for name, node in self.walked():
            if isinstance(node, ast.ImportFrom):
                self.assertEqual(node.level, 0, name)
                self.assertTrue(node.module.startswith("cutstreams."), name)

    def test_names(self):
        for name, node in self.walked():
            where = (name, getattr(node, "lineno", 0))
            if isinstance(node, ast.Name):
                self.assertRegex(node.id, r"^[A-Za-z][A-Za-z0-9_]*$", where)
                self.assertNotIn(node.id, NOT_USED, where)
                self.assertTrue(node.id in BUILT_IN or node.id not in NOT_BOUND, where)
                self.assertFalse(isinstance(node.ctx, ast.Store) and node.id in NOT_BOUND, where)
            if isinstance(node, ast.Attribute):
                self.assertNotIn(node.attr, NOT_USED, where)
            if isinstance(node, ast.arg):
                self.assertNotIn(node.arg, NOT_BOUND, where)
            if isinstance(node, ast.FunctionDef):
                self.assertNotIn(node.name, NOT_USED, where)

    def own_methods(self):
        return {part.name for name, node in self.walked() if isinstance(node, ast.ClassDef)
                for part in node.body if isinstance(part, ast.FunctionDef)}

    def own_values(self):
        return {node.attr for name, node in self.walked()
                if isinstance(node, ast.Attribute) and isinstance(node.ctx, ast.Store)}

    def test_no_name_is_a_method_and_a_value(self):
        self.assertEqual(self.own_methods() & self.own_values(), set())

    def test_own_methods_and_values_are_not_called_like_pythons_own(self):
        self.assertEqual((self.own_methods() - {"__init__"} | self.own_values()) & PYTHONS_OWN, set())

    def test_methods_are_own_ones_or_those_that_are_told(self):
        for name, node in self.walked():
            if isinstance(node, ast.Call) and isinstance(node.func, ast.Attribute):
                self.assertIn(node.func.attr, METHODS | self.own_methods(), (name, node.lineno))

    def test_a_name_is_bound_once_at_a_files_top(self):
        for name in files():
            bound = []
            for node in ast.parse(text_of(name)).body:
                if isinstance(node, (ast.FunctionDef, ast.ClassDef)):
                    bound.append(node.name)
                if isinstance(node, ast.ImportFrom):
                    bound += [alias.name for alias in node.names]
                if isinstance(node, ast.Assign):
                    self.assertEqual(len(node.targets), 1, (name, node.lineno))
                    bound.append(node.targets[0].id)
            self.assertEqual(sorted(set(bound)), sorted(bound), name)

    def test_names_come_from_the_very_file_that_defines_them(self):
        for name, node in self.walked():
            if isinstance(node, ast.ImportFrom):
                source = ast.parse(text_of(node.module.split(".")[1] + ".py"))
                defined = {part.name for part in source.body if isinstance(part, (ast.FunctionDef, ast.ClassDef))}
                for alias in node.names:
                    self.assertIn(alias.name, defined, (name, node.lineno))
                    self.assertIsNone(alias.asname, (name, node.lineno))

    def test_each_name_that_is_drawn_is_used(self):
        for name in files():
            source = ast.parse(text_of(name))
            used = {node.id for node in ast.walk(source) if isinstance(node, ast.Name)}
            for node in ast.walk(source):
                if isinstance(node, ast.ImportFrom):
                    self.assertLessEqual({alias.name for alias in node.names}, used, name)

    def test_is_stands_beside_none_true_and_false_alone(self):
        for name, node in self.walked():
            if isinstance(node, ast.Compare) and isinstance(node.ops[0], (ast.Is, ast.IsNot)):
                self.assertIn(ast.unparse(node.comparators[0]), ("None", "True", "False"), (name, node.lineno))

    def test_values_are_plain(self):
        for name, node in self.walked():
            if isinstance(node, ast.Constant):
                self.assertTrue(node.value is None or isinstance(node.value, (int, str)), (name, node.lineno))
            if isinstance(node, ast.Constant) and isinstance(node.value, str):
                self.assertNotIn("%", node.value, (name, node.lineno))


if __name__ == "__main__":
    unittest.main()

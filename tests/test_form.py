"""The form of the package's files, as far as it can be seen without running them."""

import ast
import builtins
import pathlib
import re
import unittest

PACKAGE = pathlib.Path(__file__).resolve().parent.parent / "countedcolours"

NODES = {
    "Module", "FunctionDef", "ClassDef", "arguments", "arg", "Return", "Assign", "AugAssign", "For", "While", "If",
    "Raise", "Try", "ExceptHandler", "Expr", "Pass", "Break", "Continue", "BoolOp", "And", "Or", "BinOp", "Add",
    "Sub", "Mult", "Mod", "Pow", "FloorDiv", "LShift", "RShift", "BitOr", "BitXor", "BitAnd", "UnaryOp", "Invert",
    "Not", "UAdd", "USub", "Lambda", "IfExp", "Dict", "ListComp", "comprehension", "Compare", "Eq", "NotEq", "Lt",
    "LtE", "Gt", "GtE", "Is", "IsNot", "In", "NotIn", "Call", "keyword", "FormattedValue", "JoinedStr", "Constant",
    "Attribute", "Subscript", "Name", "List", "Tuple", "Slice", "Load", "Store",
}
OWN_NAMES = set(
    "len range enumerate zip min max sum abs sorted reversed int str bool list tuple dict set frozenset isinstance "
    "ord repr any all divmod Exception ValueError TypeError KeyError IndexError LookupError ZeroDivisionError "
    "ArithmeticError OverflowError RuntimeError NotImplementedError AttributeError StopIteration".split())
METHODS = set(
    "append clear copy count endswith extend find get index insert isalnum isalpha isdigit islower isspace isupper "
    "items join keys ljust lower lstrip partition pop remove replace reverse rfind rjust rpartition rsplit rstrip "
    "setdefault split splitlines startswith strip update upper values zfill bit_length".split())
WORDS = re.compile(
    r"\b(type|typing|typing_extensions|enum|Enum|IntEnum|StrEnum|Flag|IntFlag|Generic|Protocol|ABC|ABCMeta|"
    r"namedtuple|NamedTuple|TypedDict|TYPE_CHECKING|abstractmethod)\b|dataclass|overload|contextmanager")


def package_files():
    return sorted(path for path in PACKAGE.rglob("*") if "__pycache__" not in path.parts)


def trees():
    for path in package_files():
        for node in ast.walk(ast.parse(path.read_text(encoding="utf-8"))):
            yield f"{path.name}:{getattr(node, 'lineno', 0)}", node


def names_called(tree, names):
    """Each call of one of the names, with the node in which it stands."""
    for around in ast.walk(tree):
        for node in ast.iter_child_nodes(around):
            if isinstance(node, ast.Call) and isinstance(node.func, ast.Name) and node.func.id in names:
                yield f"line {node.lineno}", node, around


def is_call_of(node, names):
    return isinstance(node, ast.Call) and isinstance(node.func, ast.Name) and node.func.id in names


class Files(unittest.TestCase):
    def test_only_plainly_named_files_lie_in_the_package(self):
        names = [path.name for path in package_files()]
        self.assertIn("__init__.py", names)
        self.assertIn("places.py", names)
        for name in names:
            self.assertRegex(name, r"^(__init__|[a-z][a-z0-9_]*)\.py$")

    def test_signs_and_size(self):
        for path in package_files():
            text = path.read_text(encoding="utf-8")
            self.assertRegex(text, r"\A[ -~\n]*\Z", path.name)
            self.assertIsNone(WORDS.search(text), path.name)
            lines = text.splitlines()
            self.assertLessEqual(len(lines), 400, path.name)
            self.assertLessEqual(max(len(line) for line in lines), 120, path.name)


class Code(unittest.TestCase):
    def test_only_the_small_part_of_the_language(self):
        # Import and ImportFrom are not among them: the program imports nothing.
        for where, node in trees():
            self.assertIn(type(node).__name__, NODES, where)
            if isinstance(node, ast.Constant):
                self.assertIn(type(node.value), (int, str, bool, type(None)), where)
            if isinstance(node, ast.Assign):
                self.assertEqual(len(node.targets), 1, where)
            if isinstance(node, (ast.For, ast.While)):
                self.assertEqual(node.orelse, [], where)
            if isinstance(node, ast.Try):
                self.assertEqual(node.finalbody, [], where)
            if isinstance(node, ast.BinOp) and isinstance(node.op, ast.Pow):
                self.assertIsInstance(node.right, ast.Constant, where)

    def test_functions(self):
        for where, node in trees():
            if isinstance(node, ast.FunctionDef):
                self.assertLessEqual(node.end_lineno - node.lineno + 1, 40, where)
                self.assertEqual(node.decorator_list, [], where)
                self.assertIsNone(node.args.vararg, where)
                self.assertIsNone(node.args.kwarg, where)
                self.assertEqual(node.args.kwonlyargs, [], where)

    def test_names(self):
        python_names = set(dir(builtins))
        for where, node in trees():
            if isinstance(node, ast.Name):
                self.assertRegex(node.id, r"^[A-Za-z][A-Za-z0-9_]*$", where)
                if node.id in python_names:
                    self.assertIn(node.id, OWN_NAMES, where)
                    self.assertIsInstance(node.ctx, ast.Load, where)
            if isinstance(node, ast.arg):
                self.assertNotIn(node.arg, python_names, where)

    def test_methods(self):
        for where, node in trees():
            if isinstance(node, ast.Call) and isinstance(node.func, ast.Attribute):
                self.assertIn(node.func.attr, METHODS, where)

    def test_is_stands_beside_none_true_and_false_alone(self):
        for where, node in trees():
            if isinstance(node, ast.Compare) and any(isinstance(sign, (ast.Is, ast.IsNot)) for sign in node.ops):
                self.assertIsInstance(node.comparators[0], ast.Constant, where)

    def test_what_is_walked_at_once(self):
        for path in package_files():
            tree = ast.parse(path.read_text(encoding="utf-8"))
            for where, node, around in names_called(tree, {"zip", "enumerate", "reversed", "range"}):
                if isinstance(around, (ast.For, ast.comprehension)):
                    self.assertIs(around.iter, node, where)
                else:
                    outer = {"list", "tuple", "dict", "sorted", "sum", "any", "all", "enumerate", "zip"}
                    self.assertTrue(is_call_of(around, outer) and around.args[0] is node, where)

    def test_sets_are_not_kept(self):
        for path in package_files():
            tree = ast.parse(path.read_text(encoding="utf-8"))
            for where, node, around in names_called(tree, {"set", "frozenset"}):
                self.assertTrue(isinstance(around, ast.Compare) or is_call_of(around, {"sorted", "len"}), where)

    def test_the_top_of_a_file(self):
        for path in package_files():
            bound = []
            for node in ast.parse(path.read_text(encoding="utf-8")).body:
                if isinstance(node, ast.Assign):
                    ast.literal_eval(node.value)
                    bound.append(node.targets[0].id)
                elif isinstance(node, (ast.FunctionDef, ast.ClassDef)):
                    bound.append(node.name)
                else:
                    self.assertIsInstance(node.value.value, str, path.name)
            self.assertEqual(sorted(bound), sorted(set(bound)), path.name)
            for name in bound:
                self.assertRegex(name, r"^[A-Za-z][A-Za-z0-9_]*$")
                self.assertNotIn(name, dir(builtins))


if __name__ == "__main__":
    unittest.main()

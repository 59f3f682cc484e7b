"""The package keeps to the small part of Python that is asked for, as far as its rules can be seen in the code."""

import ast
import builtins
import os
import re
import unittest

PACKAGE = os.path.join(os.path.dirname(os.path.dirname(os.path.abspath(__file__))), "jugglebench")

NODES = """
Module FunctionDef ClassDef arguments arg Return Assign AugAssign If While For Break Continue Pass Raise Try
ExceptHandler Expr ImportFrom alias BoolOp BinOp UnaryOp IfExp Dict List Tuple ListComp comprehension Compare Call
Constant Attribute Subscript Slice Name Lambda JoinedStr FormattedValue keyword Load Store And Or Not USub Invert
Add Sub Mult FloorDiv Mod BitAnd BitOr BitXor LShift RShift Eq NotEq Lt LtE Gt GtE In NotIn Is IsNot
""".split()

OWN_NAMES = """
len range enumerate zip min max sum abs sorted reversed int str bool list tuple dict set isinstance ord repr any all
divmod Exception ValueError TypeError KeyError IndexError LookupError ZeroDivisionError ArithmeticError OverflowError
RuntimeError NotImplementedError AttributeError StopIteration
""".split()

METHODS = """
append clear copy count endswith extend find get index insert isalnum isalpha isdigit islower isspace isupper items
join keys ljust lower lstrip partition pop remove replace reverse rfind rjust rpartition rsplit rstrip setdefault
split splitlines startswith strip update upper values zfill bit_length
""".split()

WORDS = """
type typing typing_extensions enum Enum IntEnum StrEnum Flag IntFlag Generic Protocol ABC ABCMeta namedtuple
NamedTuple TypedDict TYPE_CHECKING abstractmethod
""".split()

WALKED = "zip enumerate reversed range items keys values".split()

WALKERS = "list tuple dict sorted sum any all enumerate zip min max".split()

UNUSED = "register mro elements open input version_info with_traceback add_note".split()


def sources():
    found = {}
    for folder, folders, files in os.walk(PACKAGE):
        folders[:] = [name for name in folders if name != "__pycache__"]
        for name in files:
            with open(os.path.join(folder, name), encoding="utf-8", newline="") as file:
                found[os.path.relpath(os.path.join(folder, name), PACKAGE)] = file.read()
    return found


def bound_names(tree):
    for node in ast.walk(tree):
        if isinstance(node, ast.Name) and isinstance(node.ctx, ast.Store):
            yield node.id
        if isinstance(node, ast.arg):
            yield node.arg
        if isinstance(node, (ast.FunctionDef, ast.ClassDef)):
            yield node.name


class LanguageTest(unittest.TestCase):
    def each_node(self):
        for name, source in sources().items():
            for node in ast.walk(ast.parse(source)):
                yield f"{name}:{getattr(node, 'lineno', 0)}", node

    def test_files_and_signs(self):
        self.assertIn("__init__.py", sources())
        for name, source in sources().items():
            self.assertRegex(name, r"^[a-z0-9_]+\.py$")
            self.assertRegex(source, r"\A[ -~\n]*\Z")
            self.assertLessEqual(source.count("\n"), 400, name)
            self.assertLessEqual(max(len(line) for line in source.split("\n")), 120, name)

    def test_words_that_stand_nowhere(self):
        for name, source in sources().items():
            self.assertEqual([word for word in WORDS if re.search(r"\b" + word + r"\b", source)], [], name)
            self.assertIsNone(re.search("dataclass|overload|contextmanager", source), name)

    def test_statements_and_expressions(self):
        for place, node in self.each_node():
            self.assertIn(node.__class__.__name__, NODES, place)
            if isinstance(node, ast.Assign):
                self.assertEqual(len(node.targets), 1, place)
                self.assertNotIsInstance(node.targets[0], (ast.Tuple, ast.List), place)
            if isinstance(node, (ast.For, ast.While)):
                self.assertEqual(node.orelse, [], place)
            if isinstance(node, ast.ListComp):
                self.assertEqual(len(node.generators), 1, place)
                self.assertLessEqual(len(node.generators[0].ifs), 1, place)
            if isinstance(node, ast.Constant) and node.value is not None:
                self.assertIn(node.value.__class__, (int, str, bool), place)
                self.assertNotIn("%", str(node.value), place)

    def test_imports(self):
        for place, node in self.each_node():
            if isinstance(node, ast.ImportFrom):
                self.assertEqual(node.level, 0, place)
                self.assertRegex(node.module, r"^jugglebench\.[a-z_]+$", place)
                self.assertNotIn("*", [alias.name for alias in node.names], place)

    def test_functions(self):
        for place, node in self.each_node():
            if isinstance(node, ast.FunctionDef):
                self.assertLessEqual(node.end_lineno - node.lineno + 1, 40, place)
                self.assertEqual(node.decorator_list, [], place)
                self.assertIsNone(node.args.vararg or node.args.kwarg, place)
                self.assertEqual(node.args.kwonlyargs + node.args.posonlyargs, [], place)
                called = [inner.func for inner in ast.walk(node) if isinstance(inner, ast.Call)]
                self.assertNotIn(node.name, [func.id for func in called if isinstance(func, ast.Name)], place)

    def test_names(self):
        for name, source in sources().items():
            tree = ast.parse(source)
            for bound in bound_names(tree):
                self.assertRegex(bound, r"^[A-Za-z][A-Za-z0-9_]*$", name)
                self.assertFalse(hasattr(builtins, bound), bound)
                self.assertNotIn(bound, UNUSED, name)
            imported = [alias.name for node in tree.body if isinstance(node, ast.ImportFrom) for alias in node.names]
            self.assertEqual(set(bound_names(tree)) & set(imported), set(), name)
            tops = [node.name for node in tree.body if isinstance(node, ast.FunctionDef)]
            self.assertEqual(len(tops), len(set(tops)), name)

    def test_names_and_methods_of_python_itself(self):
        for place, node in self.each_node():
            if isinstance(node, ast.Name) and hasattr(builtins, node.id):
                self.assertIn(node.id, OWN_NAMES, place)
            if isinstance(node, ast.Attribute):
                self.assertIn(node.attr, METHODS, place)

    def test_what_is_walked_at_once(self):
        walked = []
        for place, node in self.each_node():
            if isinstance(node, (ast.For, ast.comprehension)):
                walked.append(node.iter)
            if isinstance(node, ast.Call) and isinstance(node.func, ast.Name) and node.func.id in WALKERS:
                walked.extend(node.args[:1])
        dumped = [ast.dump(node, include_attributes=True) for node in walked]
        for place, node in self.each_node():
            if isinstance(node, ast.Call):
                name = node.func.id if isinstance(node.func, ast.Name) else node.func.attr
                self.assertTrue(name not in WALKED or ast.dump(node, include_attributes=True) in dumped, place)

    def test_a_set_is_neither_kept_nor_walked(self):
        made = []
        asked = []
        for place, node in self.each_node():
            if isinstance(node, ast.Name) and node.id == "set":
                made.append((place, node.col_offset))
            if isinstance(node, ast.Call) and isinstance(node.func, ast.Name) and node.func.id in ("len", "sorted"):
                first = node.args[0]
                if isinstance(first, ast.Call) and isinstance(first.func, ast.Name) and first.func.id == "set":
                    asked.append((f"{place.partition(':')[0]}:{first.lineno}", first.func.col_offset))
        self.assertEqual(sorted(made), sorted(asked))

    def test_the_top_of_a_module(self):
        for name, source in sources().items():
            body = ast.parse(source).body
            self.assertIsInstance(body[0], ast.Expr, name)
            for node in body[1:]:
                self.assertIsInstance(node, (ast.ImportFrom, ast.FunctionDef, ast.Assign), name)


if __name__ == "__main__":
    unittest.main()

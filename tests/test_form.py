"""The form of the package's files: what of the rules L1 to L28 a walk through the code can see."""

import ast
import builtins
import pathlib
import re
import unittest

PACKAGE = pathlib.Path(__file__).resolve().parent.parent / "tiedwall"

# L6 and L7, and what stands within such statements and expressions.
NODES = """
Module FunctionDef ClassDef arguments arg Return Assign AugAssign If While For Break Continue Pass Raise Try
ExceptHandler Expr ImportFrom alias Name Load Store Constant List Tuple Dict Set BinOp UnaryOp BoolOp Compare IfExp
Call Attribute Subscript Slice ListComp comprehension JoinedStr FormattedValue Lambda keyword
Add Sub Mult FloorDiv Mod Pow BitAnd BitOr BitXor LShift RShift Invert Not USub UAdd And Or
Eq NotEq Lt LtE Gt GtE Is IsNot In NotIn
""".split()

# L8.
OWN_NAMES = """
len range enumerate zip min max sum abs sorted reversed int str bool list tuple dict set frozenset isinstance ord repr
any all divmod Exception ValueError TypeError KeyError IndexError LookupError ZeroDivisionError ArithmeticError
OverflowError RuntimeError NotImplementedError AttributeError StopIteration
""".split()

# L25.
METHODS = """
append clear copy count endswith extend find get index insert isalnum isalpha isdigit islower isspace isupper items
join keys ljust lower lstrip partition pop remove replace reverse rfind rjust rpartition rsplit rstrip setdefault split
splitlines startswith strip update upper values zfill bit_length
""".split()

# L17.
WORDS = """
type typing typing_extensions enum Enum IntEnum StrEnum Flag IntFlag Generic Protocol ABC ABCMeta namedtuple NamedTuple
TypedDict TYPE_CHECKING abstractmethod
""".split()
UNUSED_NAMES = """
register mro elements open input version_info with_traceback add_note attrgetter breakpoint builtins compile copyright
credits delattr dir eval exec exit gc getattr globals hasattr help id importlib license locals methodcaller os quit
setattr super vars sys format format_map
""".split()

TWO_UNDERSCORES = ["__init__", "__eq__", "__repr__", "__str__", "__len__"]


def files():
    return [path for path in sorted(PACKAGE.rglob("*")) if "__pycache__" not in path.parts]


def trees():
    return [(path.name, ast.parse(path.read_text(encoding="ascii"))) for path in files()]


def nodes(*kinds):
    for name, tree in trees():
        for node in ast.walk(tree):
            if isinstance(node, kinds):
                yield f"{name}:{getattr(node, 'lineno', 0)}", node


def bound_names():
    for where, node in nodes(ast.Name, ast.arg, ast.FunctionDef, ast.ClassDef):
        if isinstance(node, ast.Name):
            if isinstance(node.ctx, ast.Store):
                yield where, node.id
        elif isinstance(node, ast.arg):
            yield where, node.arg
        else:
            yield where, node.name


class Files(unittest.TestCase):
    def test_plain_files_alone(self):
        self.assertIn("__init__.py", [path.name for path in files()])
        self.assertIn("wall.py", [path.name for path in files()])
        for path in files():
            self.assertRegex(path.name, r"\A([a-z][a-z0-9_]*|__init__)\.py\Z")
            self.assertNotIn(path.stem, dir(builtins) + ["test", "tests", "testing", "site", "conftest"])

    def test_signs_and_sizes(self):
        for path in files():
            text = path.read_bytes()
            self.assertRegex(text, rb"\A[ -~\n]*\Z")
            lines = text.split(b"\n")
            self.assertLessEqual(len(lines), 400, path.name)
            self.assertLessEqual(max(len(line) for line in lines), 120, path.name)

    def test_words(self):
        for path in files():
            found = re.findall(r"\w+", path.read_text(encoding="ascii"))
            self.assertEqual([word for word in found if word in WORDS], [], path.name)
            self.assertNotRegex(path.read_text(encoding="ascii"), "dataclass|overload|contextmanager")


class Code(unittest.TestCase):
    def test_statements_and_expressions(self):
        for where, node in nodes(ast.AST):
            self.assertIn(type(node).__name__, NODES, where)
        for where, node in nodes(ast.For, ast.While):
            self.assertEqual(node.orelse, [], where)
        for where, node in nodes(ast.Assign):
            self.assertEqual(len(node.targets), 1, where)
        for where, node in nodes(ast.Constant):
            self.assertIsInstance(node.value, (int, str, bool, type(None)), where)

    def test_functions(self):
        for where, node in nodes(ast.FunctionDef):
            self.assertLessEqual(node.end_lineno - node.lineno + 1, 40, where)
            given = node.args
            others = (given.vararg, given.kwarg, given.kwonlyargs, given.posonlyargs)
            self.assertEqual(others, (None, None, [], []), where)
            self.assertEqual(node.decorator_list, [], where)

    def test_comprehensions(self):
        for where, node in nodes(ast.ListComp):
            self.assertEqual(len(node.generators), 1, where)
            self.assertLessEqual(len(node.generators[0].ifs), 1, where)

    def test_top_of_a_file(self):
        for name, tree in trees():
            self.assertTrue(ast.get_docstring(tree), name)
            bound = []
            for node in tree.body[1:]:
                self.assertIsInstance(node, (ast.ImportFrom, ast.FunctionDef, ast.ClassDef, ast.Assign), name)
                if isinstance(node, ast.ImportFrom):
                    bound += [alias.asname or alias.name for alias in node.names]
                elif isinstance(node, ast.Assign):
                    bound.append(node.targets[0].id)
                else:
                    bound.append(node.name)
            self.assertEqual(len(bound), len(set(bound)), name)

    def test_imports(self):
        for where, node in nodes(ast.ImportFrom):
            self.assertRegex(node.module, r"\Atiedwall\.[a-z0-9_]+\Z", where)
            self.assertEqual(node.level, 0, where)
            self.assertNotIn("*", [alias.name for alias in node.names], where)

    def test_names(self):
        for where, name in bound_names():
            self.assertRegex(name, r"\A([A-Za-z][A-Za-z0-9_]*|__(init|eq|repr|str|len)__)\Z", where)
            self.assertNotIn(name, dir(builtins), where)
            self.assertNotIn(name, UNUSED_NAMES, where)

    def test_no_local_is_called_like_an_import_or_a_class(self):
        for name, tree in trees():
            taken = [node.name for node in tree.body if isinstance(node, ast.ClassDef)]
            for node in tree.body:
                if isinstance(node, ast.ImportFrom):
                    taken += [alias.asname or alias.name for alias in node.names]
            for node in ast.walk(tree):
                if isinstance(node, ast.arg):
                    self.assertNotIn(node.arg, taken, name)
                elif isinstance(node, ast.Name) and isinstance(node.ctx, ast.Store):
                    self.assertNotIn(node.id, taken, name)

    def test_imports_name_what_is_used_where_it_is_defined(self):
        defined = {name: [getattr(node, "name", "") for node in tree.body] for name, tree in trees()}
        for name, tree in trees():
            defined[name] += [node.targets[0].id for node in tree.body if isinstance(node, ast.Assign)]
        for name, tree in trees():
            used = [node.id for node in ast.walk(tree) if isinstance(node, ast.Name)]
            for node in tree.body:
                if isinstance(node, ast.ImportFrom):
                    for alias in node.names:
                        self.assertIn(alias.name, used, name)
                        self.assertIn(alias.name, defined[node.module.split(".")[1] + ".py"], name)

    def test_lists_and_dicts_of_a_top_hold_none(self):
        for name, tree in trees():
            for node in tree.body:
                if isinstance(node, ast.Assign):
                    within = [one for one in ast.walk(node.value) if isinstance(one, (ast.List, ast.Dict, ast.Set))]
                    self.assertIn(within, ([], [node.value]), name)

    def test_pythons_own(self):
        for where, node in nodes(ast.Name):
            if node.id in dir(builtins):
                self.assertIn(node.id, OWN_NAMES, where)
        own = [name for where, name in bound_names()]
        for where, node in nodes(ast.Call):
            if isinstance(node.func, ast.Attribute):
                self.assertIn(node.func.attr, METHODS + TWO_UNDERSCORES + own, where)

    def test_is(self):
        for where, node in nodes(ast.Compare):
            for sign, right in zip(node.ops, node.comparators):
                if isinstance(sign, (ast.Is, ast.IsNot)):
                    self.assertIsInstance(right, ast.Constant, where)
                    self.assertIn(repr(right.value), ("None", "True", "False"), where)


if __name__ == "__main__":
    unittest.main()

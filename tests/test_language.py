"""The package keeps to its part of Python: the rules that can be seen in a file."""

import ast
import builtins
import pathlib
import re
import unittest

PACKAGE = pathlib.Path(__file__).resolve().parent.parent / "twosidesyard"
BUILT_IN = (
    "len range enumerate zip min max sum abs sorted reversed int str bool list tuple dict set frozenset isinstance "
    "ord repr any all divmod Exception ValueError TypeError KeyError IndexError LookupError ZeroDivisionError "
    "ArithmeticError OverflowError RuntimeError NotImplementedError AttributeError StopIteration"
).split()
NODES = (
    "Module FunctionDef ClassDef Return Assign AugAssign For While If Raise Try ExceptHandler Expr Pass Break Continue "
    "ImportFrom alias arguments arg Lambda IfExp BoolOp And Or UnaryOp Not USub Invert BinOp Add Sub Mult FloorDiv Mod "
    "Pow BitAnd BitOr BitXor LShift RShift Compare Eq NotEq Lt LtE Gt GtE Is IsNot In NotIn Call keyword Attribute "
    "Subscript Slice Name Load Store Constant List Tuple Dict ListComp comprehension JoinedStr FormattedValue"
).split()
METHODS = (
    "append clear copy count endswith extend find get index insert isalnum isalpha isdigit islower isspace isupper "
    "items join keys ljust lower lstrip partition pop remove replace reverse rfind rjust rpartition rsplit rstrip "
    "setdefault split splitlines startswith strip update upper values zfill bit_length"
).split()
WORDS = (
    "type typing typing_extensions enum Enum IntEnum StrEnum Flag IntFlag Generic Protocol ABC ABCMeta namedtuple "
    "NamedTuple TypedDict TYPE_CHECKING abstractmethod"
).split()
NEVER = "register mro elements open input version_info with_traceback add_note".split()


def files():
    return sorted(PACKAGE.glob("*.py"))


def each_node(kind=ast.AST):
    for path in files():
        for node in ast.walk(ast.parse(path.read_text())):
            if isinstance(node, kind):
                yield path.name, node


def is_plain(node, functions):
    if isinstance(node, ast.Constant):
        return True
    if isinstance(node, (ast.List, ast.Tuple)):
        return all(is_plain(part, functions) for part in node.elts)
    if isinstance(node, ast.Dict):
        return all(is_plain(part, functions) for part in node.keys + node.values)
    return isinstance(node, ast.Name) and node.id in functions


class Language(unittest.TestCase):
    def test_only_python_files_lie_there(self):
        there = [path for path in PACKAGE.iterdir() if path.name != "__pycache__"]
        self.assertEqual(sorted(there), files())
        for path in there:
            self.assertRegex(path.name, r"^([a-z][a-z0-9_]*|__init__)\.py$")
            self.assertFalse(path.stem != "__init__" and hasattr(builtins, path.stem), path.name)

    def test_size_and_signs(self):
        for path in files():
            text = path.read_text()
            self.assertRegex(text, r"\A[ -~\n]*\Z", path.name)
            self.assertLessEqual(len(text.splitlines()), 400, path.name)
            self.assertLessEqual(max(len(row) for row in text.splitlines()), 120, path.name)
        for name, node in each_node(ast.FunctionDef):
            self.assertLessEqual(node.end_lineno - node.lineno + 1, 40, (name, node.name))

    def test_words_that_stand_nowhere(self):
        for path in files():
            words = re.findall(r"\w+", path.read_text())
            self.assertEqual([word for word in words if word in WORDS], [], path.name)

    def test_statements_and_expressions(self):
        for name, node in each_node():
            self.assertIn(type(node).__name__, NODES, (name, getattr(node, "lineno", 0)))
            if isinstance(node, ast.Constant):
                self.assertIn(type(node.value), (int, str, bool, type(None)), name)
            if isinstance(node, ast.Assign):
                self.assertEqual(len(node.targets), 1, (name, node.lineno))
                self.assertNotIsInstance(node.targets[0], (ast.Tuple, ast.List), (name, node.lineno))
            if isinstance(node, (ast.For, ast.While)):
                self.assertEqual(node.orelse, [], (name, node.lineno))
            if isinstance(node, ast.ListComp):
                self.assertEqual(len(node.generators), 1, (name, node.lineno))
                self.assertLessEqual(len(node.generators[0].ifs), 1, (name, node.lineno))

    def test_functions(self):
        for name, node in each_node(ast.FunctionDef):
            where = (name, node.name)
            self.assertEqual((node.decorator_list, node.returns), ([], None), where)
            self.assertEqual((node.args.vararg, node.args.kwarg, node.args.kwonlyargs), (None, None, []), where)
            self.assertEqual([one.annotation for one in node.args.args if one.annotation], [], where)

    def test_imports(self):
        drawn = {}
        for path in files():
            tree = ast.parse(path.read_text())
            drawn[path.stem] = []
            for node in ast.walk(tree):
                if isinstance(node, ast.ImportFrom):
                    self.assertIn(node, tree.body)
                    self.assertRegex(node.module, r"^twosidesyard\.[a-z]+$")
                    source = node.module.split(".")[1]
                    drawn[path.stem].append(source)
                    text = (PACKAGE / (source + ".py")).read_text()
                    for one in node.names:
                        self.assertRegex(text, rf"(?m)^((def|class) {one.name}\b|{one.name} =)", path.name)
        self.assertEqual(drawn["__init__"], [])
        settled = []
        while len(settled) < len(drawn):
            free = [name for name in drawn if name not in settled and set(drawn[name]) <= set(settled)]
            self.assertNotEqual(free, [], "files draw from one another")
            settled += free

    def test_the_top_of_a_file(self):
        for path in files():
            bound = []
            functions = []
            for node in ast.parse(path.read_text()).body[1:]:
                if isinstance(node, ast.Assign):
                    self.assertTrue(is_plain(node.value, functions), (path.name, node.lineno))
                    bound.append(node.targets[0].id)
                elif isinstance(node, ast.ImportFrom):
                    bound += [one.name for one in node.names]
                else:
                    self.assertIsInstance(node, (ast.FunctionDef, ast.ClassDef))
                    bound.append(node.name)
                    functions.append(node.name)
            self.assertEqual(len(bound), len(set(bound)), path.name)

    def test_names(self):
        for path in files():
            tree = ast.parse(path.read_text())
            tops = [one.name for node in tree.body if isinstance(node, ast.ImportFrom) for one in node.names]
            tops += [node.name for node in tree.body if isinstance(node, ast.ClassDef)]
            for node in ast.walk(tree):
                if isinstance(node, ast.Name):
                    known = not hasattr(builtins, node.id) or node.id in BUILT_IN
                    self.assertTrue(known, (path.name, node.id))
                    self.assertRegex(node.id, r"^[A-Za-z]\w*$")
                    self.assertNotIn(node.id, NEVER)
                local = node.arg if isinstance(node, ast.arg) else None
                if isinstance(node, ast.Name) and isinstance(node.ctx, ast.Store):
                    local = node.id
                if local is not None:
                    self.assertFalse(hasattr(builtins, local), (path.name, local))
                    self.assertNotIn(local, tops, path.name)

    def test_methods_and_values(self):
        taken = [name for kind in (str, int, list, dict, set, bytes, tuple) for name in dir(kind)]
        stored = [node.attr for _, node in each_node(ast.Attribute) if isinstance(node.ctx, ast.Store)]
        self.assertEqual([name for name in stored if name in taken + NEVER], [])
        called = [node.func.attr for _, node in each_node(ast.Call) if isinstance(node.func, ast.Attribute)]
        self.assertEqual([name for name in called if name not in METHODS], [])
        for name, node in each_node(ast.ClassDef):
            for part in node.body[1:]:
                self.assertIsInstance(part, ast.FunctionDef)
                self.assertEqual(part.name, "__init__", (name, node.name))

    def test_is_stands_beside_none_true_or_false(self):
        for name, node in each_node(ast.Compare):
            for sign, right in zip(node.ops, node.comparators):
                if isinstance(sign, (ast.Is, ast.IsNot)):
                    self.assertIsInstance(right, ast.Constant, (name, node.lineno))
                    self.assertIn(right.value, (None, True, False))


if __name__ == "__main__":
    unittest.main()

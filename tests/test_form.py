"""The part of Python that the package keeps to, as far as it can be seen from its files."""

import ast
import builtins
import pathlib
import re
import unittest

PACKAGE = pathlib.Path(__file__).resolve().parent.parent / "lensrows"
FILES = sorted(PACKAGE.rglob("*.py"))

ERRORS = set("""Exception ValueError TypeError KeyError IndexError LookupError ZeroDivisionError ArithmeticError
OverflowError RuntimeError NotImplementedError AttributeError StopIteration""".split())
OWN_OF_PYTHON = ERRORS | set("""len range enumerate zip min max sum abs sorted reversed int str bool list tuple dict set
frozenset isinstance ord repr any all divmod""".split())
METHODS = set("""append clear copy count endswith extend find get index insert isalnum isalpha isdigit islower isspace
isupper items join keys ljust lower lstrip partition pop remove replace reverse rfind rjust rpartition rsplit rstrip
setdefault split splitlines startswith strip update upper values zfill bit_length""".split())
VALUES = set("count index title find get join lower upper split strip copy add".split())
NEVER = set("register mro elements open input version_info with_traceback add_note format format_map".split())
NOT_AS_NAMES = set("""attrgetter breakpoint builtins compile copyright credits delattr dir eval exec exit gc getattr
globals hasattr help id importlib license locals methodcaller os quit setattr super type vars sys""".split())
NOWHERE = re.compile(r"\b(type|typing|typing_extensions|enum|Enum|IntEnum|StrEnum|Flag|IntFlag|Generic|Protocol|ABC"
                     r"|ABCMeta|namedtuple|NamedTuple|TypedDict|TYPE_CHECKING|abstractmethod)\b"
                     r"|dataclass|overload|contextmanager")
TWO_UNDERSCORES = {"__init__", "__eq__", "__repr__", "__str__", "__len__"}
OF_PYTHONS_VALUES = {name for kind in (str, int, list, dict, set, bytes, tuple) for name in dir(kind)}

NODES = (
    ast.Module, ast.ImportFrom, ast.alias, ast.FunctionDef, ast.arguments, ast.arg, ast.ClassDef, ast.Assign,
    ast.AugAssign, ast.If, ast.While, ast.For, ast.Return, ast.Break, ast.Continue, ast.Pass, ast.Raise, ast.Try,
    ast.ExceptHandler, ast.Expr, ast.Constant, ast.Name, ast.List, ast.Tuple, ast.Dict, ast.BinOp, ast.UnaryOp,
    ast.Compare, ast.BoolOp, ast.IfExp, ast.Call, ast.keyword, ast.Attribute, ast.Subscript, ast.Slice, ast.ListComp,
    ast.comprehension, ast.JoinedStr, ast.FormattedValue, ast.Lambda, ast.Load, ast.Store, ast.boolop, ast.operator,
    ast.unaryop, ast.cmpop)


def parsed(path):
    return ast.parse(path.read_text(encoding="utf-8"))


def found(kind):
    """Each node of a kind, with the file that it stands in."""
    for path in FILES:
        for node in ast.walk(parsed(path)):
            if isinstance(node, kind):
                yield path, node


def own_methods():
    return {part.name for _, one in found(ast.ClassDef) for part in one.body if isinstance(part, ast.FunctionDef)}


def own_values():
    return {node.attr for _, node in found(ast.Attribute) if isinstance(node.ctx, ast.Store)}


def imports(path):
    return [node for node in parsed(path).body if isinstance(node, ast.ImportFrom)]


def bound_at_top(path):
    names = []
    for node in parsed(path).body:
        if isinstance(node, ast.Assign):
            names += [target.id for target in node.targets]
        elif isinstance(node, (ast.FunctionDef, ast.ClassDef)):
            names.append(node.name)
        elif isinstance(node, ast.ImportFrom):
            names += [one.asname or one.name for one in node.names]
    return names


class Files(unittest.TestCase):
    def test_only_python_files_lie_in_the_package(self):
        there = [path for path in PACKAGE.rglob("*") if "__pycache__" not in path.parts]
        self.assertEqual(sorted(there), FILES)
        for path in FILES:
            self.assertRegex(path.name, r"^([a-z][a-z0-9_]*|__init__|__main__)\.py$")
            self.assertNotIn(path.stem, dir(builtins))

    def test_signs_and_sizes(self):
        for path in FILES:
            with self.subTest(path.name):
                text = path.read_text(encoding="utf-8")
                self.assertIsNone(re.search(r"[^ -~\n]", text))
                self.assertIsNone(NOWHERE.search(text))
                lines = text.splitlines()
                self.assertLessEqual(len(lines), 400)
                self.assertLessEqual(max(len(line) for line in lines), 120)
        for path, node in found(ast.FunctionDef):
            with self.subTest(node.name):
                self.assertLessEqual(node.end_lineno - node.lineno + 1, 40)

    def test_imports(self):
        drawn = {}
        for path in FILES:
            name = "lensrows." + path.stem
            drawn[name] = {node.module for node in imports(path)}
            for node in imports(path):
                self.assertRegex(node.module, r"^lensrows\.[a-z]+$")
                source = PACKAGE / (node.module.split(".")[1] + ".py")
                defined = [one for one in bound_at_top(source)
                           if one not in [x.name for y in imports(source) for x in y.names]]
                self.assertLessEqual({one.name for one in node.names}, set(defined))
        self.assertEqual(drawn["lensrows.__init__"], set())
        for name in drawn:
            reached, left = set(), list(drawn[name])
            while left:
                one = left.pop()
                if one not in reached:
                    reached.add(one)
                    left += drawn[one]
            self.assertNotIn(name, reached)

    def test_the_top_of_a_file(self):
        for path in FILES:
            with self.subTest(path.name):
                body = parsed(path).body
                self.assertIsInstance(body[0].value.value, str)
                for node in body[1:]:
                    self.assertIsInstance(node, (ast.ImportFrom, ast.Assign, ast.FunctionDef, ast.ClassDef))
                    if isinstance(node, ast.Assign):
                        ast.literal_eval(node.value)
                names = bound_at_top(path)
                self.assertEqual(len(names), len(set(names)))


class Code(unittest.TestCase):
    def test_statements_and_expressions(self):
        for path, node in found(ast.AST):
            with self.subTest(f"{path.name}:{getattr(node, 'lineno', 0)}"):
                self.assertIsInstance(node, NODES)
                self.assertNotIsInstance(node, (ast.Div, ast.MatMult))
                if isinstance(node, ast.Constant):
                    self.assertIn(type(node.value), (int, str, bool, type(None)))
                if isinstance(node, ast.Assign):
                    self.assertEqual(len(node.targets), 1)
                if isinstance(node, (ast.For, ast.While)):
                    self.assertEqual(node.orelse, [])
                if isinstance(node, ast.Try):
                    self.assertEqual(node.finalbody, [])
                if isinstance(node, ast.Compare) and any(isinstance(op, (ast.Is, ast.IsNot)) for op in node.ops):
                    self.assertIn(node.comparators[0].value, (None, True, False))
                if isinstance(node, (ast.FunctionDef, ast.ClassDef)):
                    self.assertEqual(node.decorator_list, [])
                if isinstance(node, ast.BinOp) and isinstance(node.op, ast.Pow):
                    self.assertIsInstance(node.right, ast.Constant)

    def test_no_sign_of_a_remainder_within_a_text(self):
        for path, node in found(ast.Constant):
            if isinstance(node.value, str):
                self.assertNotIn("%", node.value)

    def test_names(self):
        for path in FILES:
            tree = parsed(path)
            top = set(bound_at_top(path))
            bound = {node.id for node in ast.walk(tree) if isinstance(node, ast.Name) and isinstance(node.ctx, ast.Store)}
            parameters = {node.arg for node in ast.walk(tree) if isinstance(node, ast.arg)}
            handled = {node.name for node in ast.walk(tree) if isinstance(node, ast.ExceptHandler) and node.name}
            classes = {node.name for node in tree.body if isinstance(node, ast.ClassDef)}
            drawn = {one.name for node in imports(path) for one in node.names}
            for name in sorted(bound | parameters | handled | top):
                with self.subTest(f"{path.name}: {name}"):
                    self.assertRegex(name, r"^[A-Za-z][A-Za-z0-9_]*$")
                    self.assertNotIn(name, dir(builtins))
                    self.assertNotIn(name, NEVER | NOT_AS_NAMES)
            self.assertEqual((bound | parameters) & (classes | drawn), set())
            used = {node.id for node in ast.walk(tree) if isinstance(node, ast.Name)}
            self.assertLessEqual(used - bound - parameters - handled - top, OWN_OF_PYTHON)

    def test_methods_and_values(self):
        methods, values = own_methods(), own_values()
        self.assertEqual(methods & values, set())
        for name in sorted(methods - TWO_UNDERSCORES):
            self.assertTrue(name not in OF_PYTHONS_VALUES or name in METHODS | {"add", "discard"}, name)
        for name in sorted(values):
            self.assertTrue(name not in OF_PYTHONS_VALUES or name in VALUES, name)
        self.assertEqual((methods | values) & NEVER, set())
        for path, node in found(ast.Attribute):
            with self.subTest(f"{path.name}:{node.lineno}"):
                self.assertIn(node.attr, methods | values | METHODS)

    def test_classes(self):
        for path, node in found(ast.ClassDef):
            with self.subTest(node.name):
                self.assertLessEqual(len(node.bases), 1)
                names = [part.name for part in node.body if isinstance(part, ast.FunctionDef)]
                self.assertEqual(len(names), len(set(names)))
                for name in names:
                    self.assertTrue(name in TWO_UNDERSCORES or not name.startswith("_"))
                for part in node.body:
                    self.assertTrue(isinstance(part, ast.FunctionDef)
                                    or (isinstance(part, ast.Expr) and isinstance(part.value, ast.Constant)))

    def test_errors(self):
        own = {node.name for path, node in found(ast.ClassDef) if node.bases}
        for path, node in found(ast.ExceptHandler):
            self.assertIn(node.type.id, own)
        for path, node in found(ast.Raise):
            self.assertIn(node.exc.func.id, own)

    def test_walks_are_not_kept(self):
        kept = ("zip", "enumerate", "reversed", "range")
        for path, node in found(ast.Assign):
            if isinstance(node.value, ast.Call) and isinstance(node.value.func, ast.Name):
                self.assertNotIn(node.value.func.id, kept)


if __name__ == "__main__":
    unittest.main()

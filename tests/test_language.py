"""The package's files keep to the part of Python that they may use (as far as a look at the code can tell)."""

import ast
import pathlib
import re
import unittest

PACKAGE = pathlib.Path(__file__).resolve().parent.parent / "museumhouse"
FILES = sorted(path for path in PACKAGE.rglob("*") if path.is_file() and "__pycache__" not in path.parts)

BUILTINS = set("""len range enumerate zip min max sum abs sorted reversed int str bool list tuple dict set frozenset
    isinstance ord repr any all divmod Exception ValueError TypeError KeyError IndexError LookupError
    ZeroDivisionError ArithmeticError OverflowError RuntimeError NotImplementedError""".split())
METHODS = set("""append clear copy count endswith extend find get index insert isalnum isalpha isdigit islower isspace
    isupper items join keys ljust lower lstrip partition pop remove replace reverse rfind rjust rpartition rsplit
    rstrip setdefault split splitlines startswith strip update upper values zfill bit_length""".split())
WORDS = set("""type typing typing_extensions enum Enum IntEnum StrEnum Flag IntFlag Generic Protocol ABC ABCMeta
    namedtuple NamedTuple TypedDict TYPE_CHECKING abstractmethod""".split())
UNUSED = set("""register mro elements open input version_info with_traceback add_note format format_map attrgetter
    breakpoint builtins compile copyright credits delattr dir eval exec exit gc getattr globals hasattr help id
    importlib license locals methodcaller os quit setattr super type vars sys""".split())
ALLOWED = (
    ast.Module, ast.FunctionDef, ast.ClassDef, ast.ImportFrom, ast.alias, ast.arguments, ast.arg, ast.Assign,
    ast.AugAssign, ast.If, ast.While, ast.For, ast.Return, ast.Break, ast.Continue, ast.Pass, ast.Raise, ast.Try,
    ast.ExceptHandler, ast.Expr, ast.Constant, ast.List, ast.Tuple, ast.Dict, ast.BinOp, ast.UnaryOp, ast.BoolOp,
    ast.Compare, ast.IfExp, ast.Call, ast.keyword, ast.Attribute, ast.Subscript, ast.Slice, ast.ListComp,
    ast.comprehension, ast.JoinedStr, ast.FormattedValue, ast.Name, ast.Lambda, ast.Load, ast.Store, ast.operator,
    ast.unaryop, ast.boolop, ast.cmpop)


def trees():
    return [(path, ast.parse(path.read_text(encoding="ascii"))) for path in FILES]


def nodes(*kinds):
    return [(path, node) for path, tree in trees() for node in ast.walk(tree) if isinstance(node, kinds)]


def is_plain(node):
    if isinstance(node, (ast.List, ast.Tuple)):
        return all(is_plain(part) and not isinstance(part, (ast.List, ast.Dict)) for part in node.elts)
    if isinstance(node, ast.Dict):
        return all(is_plain(part) for part in node.keys + node.values)
    if isinstance(node, ast.UnaryOp):
        return isinstance(node.op, ast.USub) and is_plain(node.operand)
    return isinstance(node, ast.Constant)


def bound_names(tree):
    """Every name that a file binds, with how often its top does."""
    top = []
    for node in tree.body:
        if isinstance(node, ast.ImportFrom):
            top += [name.asname or name.name for name in node.names]
        elif isinstance(node, (ast.FunctionDef, ast.ClassDef)):
            top.append(node.name)
        elif isinstance(node, ast.Assign):
            top += [target.id for target in node.targets]
    inner = [node.id for node in ast.walk(tree) if isinstance(node, ast.Name) and isinstance(node.ctx, ast.Store)]
    inner += [node.arg for node in ast.walk(tree) if isinstance(node, ast.arg)]
    return top, inner


class LanguageTest(unittest.TestCase):
    def test_files(self):
        self.assertIn(PACKAGE / "house.py", FILES)
        self.assertIn(PACKAGE / "__init__.py", FILES)
        for path in FILES:
            self.assertRegex(path.name, r"^([a-z][a-z0-9_]*|__init__)\.py$")
            text = path.read_bytes()
            self.assertTrue(all(byte == 10 or 32 <= byte <= 126 for byte in text), path)
            lines = text.decode().splitlines()
            self.assertLessEqual(len(lines), 400, path)
            self.assertLessEqual(max([len(line) for line in lines], default=0), 120, path)

    def test_words_that_stand_nowhere(self):
        for path in FILES:
            text = path.read_text()
            self.assertEqual(set(re.findall(r"\w+", text)) & WORDS, set(), path)
            for part in ("dataclass", "overload", "contextmanager"):
                self.assertNotIn(part, text, path)

    def test_only_plain_statements_and_expressions(self):
        for path, node in nodes(ast.AST):
            self.assertIsInstance(node, ALLOWED, f"{path}:{getattr(node, 'lineno', 0)}")
            self.assertNotIsInstance(node, (ast.Div, ast.MatMult), path)
            where = f"{path}:{getattr(node, 'lineno', 0)}"
            if isinstance(node, (ast.For, ast.While)):
                self.assertEqual(node.orelse, [], where)
            if isinstance(node, ast.Try):
                self.assertEqual(node.finalbody, [], where)
            if isinstance(node, ast.Expr) and node.lineno > 1:
                self.assertIsInstance(node.value, ast.Call, where)
            if isinstance(node, ast.Assign):
                self.assertEqual(len(node.targets), 1, where)
                self.assertIsInstance(node.targets[0], (ast.Name, ast.Attribute, ast.Subscript), where)
            if isinstance(node, ast.ListComp):
                self.assertEqual(len(node.generators), 1, where)
                self.assertLessEqual(len(node.generators[0].ifs), 1, where)
            if isinstance(node, ast.Constant):
                self.assertIn(type(node.value), (int, str, bool, type(None)), where)
                self.assertNotIn("%", str(node.value), where)
            if isinstance(node, ast.FormattedValue):
                self.assertIsInstance(node.value, ast.Name, where)

    def test_is_stands_beside_none_true_and_false(self):
        for path, node in nodes(ast.Compare):
            if any(isinstance(op, (ast.Is, ast.IsNot)) for op in node.ops):
                self.assertTrue(all(isinstance(part, ast.Constant) for part in node.comparators), path)

    def test_the_top_of_each_file(self):
        for path, tree in trees():
            for k, node in enumerate(tree.body):
                where = f"{path}:{node.lineno}"
                if isinstance(node, ast.Expr):
                    self.assertEqual(k, 0, where)
                elif isinstance(node, ast.Assign):
                    self.assertTrue(is_plain(node.value), where)
                else:
                    self.assertIsInstance(node, (ast.ImportFrom, ast.FunctionDef, ast.ClassDef), where)
        self.assertEqual([path for path, node in nodes(ast.ClassDef) if node.col_offset], [])

    def test_functions(self):
        for path, node in nodes(ast.FunctionDef):
            where = f"{path}:{node.lineno}"
            self.assertLessEqual(node.end_lineno - node.lineno + 1, 40, where)
            self.assertEqual(node.decorator_list, [], where)
            self.assertIsNone(node.args.vararg or node.args.kwarg, where)
            self.assertEqual(node.args.kwonlyargs + node.args.posonlyargs, [], where)

    def test_classes(self):
        for path, node in nodes(ast.ClassDef):
            where = f"{path}:{node.lineno}"
            self.assertEqual(node.decorator_list, [], where)
            self.assertLessEqual(len(node.bases), 1, where)
            for part in node.body:
                self.assertIsInstance(part, ast.FunctionDef, where)

    def test_imports(self):
        defined = {"museumhouse." + path.stem: bound_names(tree)[0] for path, tree in trees()}
        imported = {"museumhouse." + path.stem: [] for path, tree in trees()}
        for path, node in nodes(ast.ImportFrom):
            self.assertEqual((node.level, node.col_offset), (0, 0), path)
            tree = dict(trees())[PACKAGE / (node.module.split(".")[-1] + ".py")]
            own = [part for part in tree.body if not isinstance(part, ast.ImportFrom)]
            names = bound_names(ast.Module(own, []))[0]
            for name in node.names:
                self.assertIn(name.name, names, f"{path}: {node.module}")
                self.assertIsNone(name.asname, path)
            imported["museumhouse." + path.stem].append(node.module)
        self.assertEqual(defined["museumhouse.__init__"], [])
        while imported:
            ends = [name for name, drawn in imported.items() if not set(drawn) & set(imported)]
            self.assertNotEqual(ends, [], "files draw from one another")
            imported = {name: drawn for name, drawn in imported.items() if name not in ends}

    def test_every_import_is_used(self):
        for path, tree in trees():
            used = {node.id for node in ast.walk(tree) if isinstance(node, ast.Name)}
            for node in tree.body:
                if isinstance(node, ast.ImportFrom):
                    self.assertEqual({name.name for name in node.names} - used, set(), path)

    def test_names(self):
        python = set(dir(__builtins__) if not isinstance(__builtins__, dict) else __builtins__)
        for path, tree in trees():
            top, inner = bound_names(tree)
            self.assertEqual(len(top), len(set(top)), path)
            for name in top + inner:
                self.assertRegex(name, r"^[A-Za-z][A-Za-z0-9_]*$", path)
                self.assertNotIn(name, python | UNUSED, path)
            drawn = [name.name for node in tree.body if isinstance(node, ast.ImportFrom) for name in node.names]
            classes = [node.name for node in tree.body if isinstance(node, ast.ClassDef)]
            self.assertEqual(set(inner) & set(drawn + classes), set(), path)
            for node in ast.walk(tree):
                if isinstance(node, ast.Name) and isinstance(node.ctx, ast.Load):
                    self.assertIn(node.id, BUILTINS | set(top) | set(inner), f"{path}:{node.lineno}")

    def test_methods_and_values(self):
        methods = {node.name for path, tree in trees() for top in tree.body if isinstance(top, ast.ClassDef)
                   for node in top.body if isinstance(node, ast.FunctionDef)}
        values = {node.attr for path, node in nodes(ast.Attribute) if isinstance(node.ctx, ast.Store)}
        self.assertEqual(methods & values, set())
        self.assertEqual((methods | values) & UNUSED, set())
        taken = {name for kind in (int, str, list, tuple, dict, set, bytes) for name in dir(kind)}
        self.assertEqual(values & taken, set())
        for path, node in nodes(ast.Call):
            if isinstance(node.func, ast.Attribute):
                self.assertIn(node.func.attr, METHODS | methods, f"{path}:{node.lineno}")


if __name__ == "__main__":
    unittest.main()

"""The package keeps to the part of Python that it may use, as far as a test can see it."""

import ast
import builtins
import pathlib
import re
import unittest

PACKAGE = pathlib.Path(__file__).resolve().parent.parent / "wordmill"

STATEMENTS = (
    ast.Assign, ast.AugAssign, ast.If, ast.While, ast.For, ast.Return, ast.Break, ast.Continue, ast.Pass,
    ast.Raise, ast.Try, ast.Expr, ast.FunctionDef, ast.ClassDef, ast.ImportFrom,
)
EXPRESSIONS = (
    ast.Constant, ast.List, ast.Tuple, ast.Dict, ast.BinOp, ast.UnaryOp, ast.BoolOp, ast.Compare, ast.IfExp,
    ast.Call, ast.Attribute, ast.Subscript, ast.Slice, ast.ListComp, ast.Name, ast.Lambda, ast.JoinedStr,
    ast.FormattedValue,
)
OWN_NAMES = set(
    "len range enumerate zip min max sum abs sorted reversed int str bool list tuple dict isinstance ord repr any all "
    "divmod Exception ValueError KeyError IndexError LookupError ZeroDivisionError ArithmeticError OverflowError "
    "RuntimeError NotImplementedError StopIteration".split()
)
METHODS = set(
    "append clear copy count endswith extend find get index insert isalnum isalpha isdigit islower isspace isupper "
    "items join keys ljust lower lstrip partition pop remove replace reverse rfind rjust rpartition rsplit rstrip "
    "setdefault split splitlines startswith strip update upper values zfill bit_length".split()
)
UNUSED_WORDS = (
    r"\b(type|typing|typing_extensions|enum|Enum|IntEnum|StrEnum|Flag|IntFlag|Generic|Protocol|ABC|ABCMeta|"
    r"namedtuple|NamedTuple|TypedDict|TYPE_CHECKING|abstractmethod)\b|dataclass|overload|contextmanager"
)
UNUSED_NAMES = set(
    "register mro elements open input version_info with_traceback add_note attrgetter breakpoint builtins compile "
    "copyright credits delattr dir eval exec exit gc getattr globals hasattr help id importlib license locals "
    "methodcaller os quit setattr super vars sys".split()
)
TAKEN = {name for kind in (str, int, list, dict, set, bytes) for name in dir(kind)}


def files():
    return sorted(path for path in PACKAGE.rglob("*") if "__pycache__" not in path.parts)


def trees():
    return {path: ast.parse(path.read_text()) for path in files()}


def nodes(kind):
    for path, tree in trees().items():
        for node in ast.walk(tree):
            if isinstance(node, kind):
                yield path.name, node


def bound_names(tree):
    for node in ast.walk(tree):
        if isinstance(node, ast.Name) and isinstance(node.ctx, ast.Store):
            yield node.id
        elif isinstance(node, ast.arg):
            yield node.arg
        elif isinstance(node, (ast.FunctionDef, ast.ClassDef)):
            yield node.name
        elif isinstance(node, ast.alias):
            yield node.asname or node.name


class Files(unittest.TestCase):
    def test_names_signs_and_sizes(self):
        for path in files():
            text = path.read_text()
            self.assertTrue(re.fullmatch(r"[a-z][a-z0-9_]*\.py|__init__\.py", path.name), path.name)
            self.assertTrue(path.stem == "__init__" or not hasattr(builtins, path.stem), path.name)
            self.assertIsNone(re.search(r"[^ -~\n]", text), path.name)
            self.assertIsNone(re.search(UNUSED_WORDS, text), path.name)
            self.assertLessEqual(len(text.splitlines()), 400, path.name)
            self.assertLessEqual(max(len(row) for row in text.splitlines()), 120, path.name)

    def test_functions_are_short(self):
        for name, node in nodes(ast.FunctionDef):
            self.assertLessEqual(node.end_lineno - node.lineno + 1, 40, (name, node.name))
            self.assertEqual(node.decorator_list, [])
            self.assertIsNone(node.args.vararg or node.args.kwarg)
            self.assertEqual(node.args.kwonlyargs, [])

    def test_imports_come_from_the_package_and_never_round(self):
        drawn = {}
        for path, tree in trees().items():
            module = f"wordmill.{path.stem}"
            drawn[module] = {node.module for node in ast.walk(tree) if isinstance(node, ast.ImportFrom)}
            at_top = [node for node in tree.body if isinstance(node, ast.ImportFrom)]
            self.assertEqual(len(at_top), sum(isinstance(node, ast.ImportFrom) for node in ast.walk(tree)))
            self.assertTrue(all(node.level == 0 for node in at_top))
        self.assertEqual(drawn["wordmill.__init__"], set())
        while drawn:
            free = [module for module, needs in drawn.items() if not needs & set(drawn)]
            self.assertTrue(free, f"these draw from one another: {sorted(drawn)}")
            for module in free:
                self.assertTrue(all(need.startswith("wordmill.") for need in drawn[module]))
            drawn = {module: needs for module, needs in drawn.items() if module not in free}


class Forms(unittest.TestCase):
    def test_statements_and_expressions(self):
        for kind, allowed in ((ast.stmt, STATEMENTS), (ast.expr, EXPRESSIONS)):
            for name, node in nodes(kind):
                self.assertIsInstance(node, allowed, f"{name}:{node.lineno}")
        for name, node in nodes((ast.Div, ast.MatMult)):
            self.fail(f"{name} has / or @")

    def test_each_statement_in_its_narrow_form(self):
        for name, node in nodes((ast.For, ast.While)):
            self.assertEqual(node.orelse, [], f"{name}:{node.lineno}")
        for name, node in nodes(ast.Assign):
            self.assertEqual(len(node.targets), 1, f"{name}:{node.lineno}")
        for name, node in nodes(ast.Expr):
            text = isinstance(node.value, ast.Constant) and isinstance(node.value.value, str)
            self.assertTrue(text or isinstance(node.value, ast.Call), f"{name}:{node.lineno}")
        for name, node in nodes(ast.Try):
            self.assertEqual(node.finalbody, [])
            self.assertTrue(all(isinstance(handler.type, ast.Name) for handler in node.handlers))

    def test_texts_and_powers(self):
        for name, node in nodes(ast.Constant):
            self.assertNotIsInstance(node.value, (float, bytes, complex))
            if isinstance(node.value, str):
                self.assertNotIn("%", node.value, f"{name}:{node.lineno}")
        for name, node in nodes(ast.BinOp):
            if isinstance(node.op, ast.Pow):
                self.assertIn(getattr(node.right, "value", None), range(65), f"{name}:{node.lineno}")

    def test_is_stands_beside_none_true_and_false_alone(self):
        for name, node in nodes(ast.Compare):
            for op, right in zip(node.ops, node.comparators):
                if isinstance(op, (ast.Is, ast.IsNot)):
                    self.assertIn(getattr(right, "value", 0), (None, True, False), f"{name}:{node.lineno}")


class Names(unittest.TestCase):
    def test_bound_names_are_plain_and_not_pythons(self):
        for path, tree in trees().items():
            for name in bound_names(tree):
                if name != "__init__":
                    self.assertTrue(re.fullmatch(r"[A-Za-z][A-Za-z0-9_]*", name), (path.name, name))
                    self.assertFalse(hasattr(builtins, name), (path.name, name))
                    self.assertNotIn(name, UNUSED_NAMES, path.name)

    def test_used_names_are_own_or_allowed(self):
        for path, tree in trees().items():
            known = set(bound_names(tree)) | OWN_NAMES
            for node in ast.walk(tree):
                if isinstance(node, ast.Name):
                    self.assertIn(node.id, known, f"{path.name}:{node.lineno}")

    def test_no_local_is_called_like_a_class_or_an_import(self):
        for path, tree in trees().items():
            shared = {alias.name for node in tree.body if isinstance(node, ast.ImportFrom) for alias in node.names}
            shared |= {node.name for node in tree.body if isinstance(node, ast.ClassDef)}
            for node in ast.walk(tree):
                name = node.arg if isinstance(node, ast.arg) else None
                if isinstance(node, ast.Name) and isinstance(node.ctx, ast.Store):
                    name = node.id
                self.assertNotIn(name, shared, path.name)

    def test_names_at_the_top_stand_once_and_tables_hold_own_functions(self):
        for path, tree in trees().items():
            tops = []
            for node in tree.body:
                if isinstance(node, ast.Assign):
                    if isinstance(node.value, ast.Dict):
                        for value in node.value.values:
                            self.assertIn(value.id, tops, f"{path.name}:{value.lineno}")
                    else:
                        self.assertIsInstance(node.value, ast.Constant, path.name)
                    tops.append(node.targets[0].id)
                elif isinstance(node, (ast.FunctionDef, ast.ClassDef)):
                    tops.append(node.name)
                elif isinstance(node, ast.ImportFrom):
                    tops.extend(alias.name for alias in node.names)
            self.assertEqual(len(tops), len(set(tops)), path.name)

    def test_methods_and_values_of_objects(self):
        methods, values = set(), set()
        for name, node in nodes(ast.ClassDef):
            methods |= {one.name for one in node.body if isinstance(one, ast.FunctionDef)} - {"__init__"}
        for name, node in nodes(ast.Attribute):
            if isinstance(node.ctx, ast.Store):
                values.add(node.attr)
        self.assertEqual(methods & values, set())
        self.assertEqual((methods | values) & (TAKEN | UNUSED_NAMES), set())
        for name, node in nodes(ast.Attribute):
            self.assertIn(node.attr, methods | values | METHODS, f"{name}:{node.lineno}")


if __name__ == "__main__":
    unittest.main()

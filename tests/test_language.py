"""The package's files keep to the small part of Python they are written in, as far as a look at them can tell."""

import ast
import builtins
import re
import unittest
from pathlib import Path

PACKAGE = Path(__file__).resolve().parent.parent / "plainerlines"

STATEMENTS = (
    ast.Assign, ast.AugAssign, ast.If, ast.While, ast.For, ast.Return, ast.Break, ast.Continue, ast.Pass,
    ast.Raise, ast.Try, ast.Expr, ast.FunctionDef, ast.ClassDef, ast.ImportFrom,
)
EXPRESSIONS = (
    ast.Constant, ast.List, ast.Tuple, ast.Dict, ast.BinOp, ast.UnaryOp, ast.BoolOp, ast.Compare, ast.IfExp,
    ast.Call, ast.Attribute, ast.Subscript, ast.Slice, ast.ListComp, ast.Name, ast.Lambda, ast.JoinedStr,
    ast.FormattedValue,
)
OWN_NAMES = set(
    "len range enumerate zip min max sum abs sorted reversed int str bool list tuple dict set frozenset isinstance ord"
    " repr any all divmod Exception ValueError TypeError KeyError IndexError LookupError ZeroDivisionError"
    " ArithmeticError OverflowError RuntimeError NotImplementedError AttributeError StopIteration".split()
)
METHODS = set(
    "append clear copy count endswith extend find get index insert isalnum isalpha isdigit islower isspace isupper"
    " items join keys ljust lower lstrip partition pop remove replace reverse rfind rjust rpartition rsplit rstrip"
    " setdefault split splitlines startswith strip update upper values zfill bit_length".split()
)
UNUSED_WORDS = set(
    "type typing typing_extensions enum Enum IntEnum StrEnum Flag IntFlag Generic Protocol ABC ABCMeta namedtuple"
    " NamedTuple TypedDict TYPE_CHECKING abstractmethod register mro elements open input eval exec".split()
)


KEPT_BY_NOBODY = set("zip enumerate reversed range items keys values".split())
WALKERS = set("list tuple dict sorted sum any all enumerate zip min max join".split())


def sources():
    return sorted(path for path in PACKAGE.rglob("*") if path.is_file() and path.suffix != ".pyc")


def trees():
    return [(path.name, ast.parse(path.read_text())) for path in sources()]


def nodes(kinds):
    return [(name, node) for name, tree in trees() for node in ast.walk(tree) if isinstance(node, kinds)]


def is_docstring(tree, node):
    return tree.body and tree.body[0] is node and isinstance(node.value, ast.Constant)


def top_names(tree):
    """Every name that a file's top binds, as often as it binds it."""
    found = []
    for node in tree.body:
        if isinstance(node, ast.ImportFrom):
            found.extend(alias.asname or alias.name for alias in node.names)
        if isinstance(node, ast.Assign):
            found.extend(target.id for target in node.targets)
        if isinstance(node, (ast.FunctionDef, ast.ClassDef)):
            found.append(node.name)
    return found


def called_name(node):
    if isinstance(node.func, ast.Attribute):
        return node.func.attr
    return node.func.id if isinstance(node.func, ast.Name) else None


def walked_on_the_spot(tree):
    """The calls that stand where what they answer is walked and not kept."""
    found = []
    for node in ast.walk(tree):
        if isinstance(node, (ast.For, ast.comprehension)):
            found.append(node.iter)
        if isinstance(node, ast.Call) and called_name(node) in WALKERS:
            found.extend(node.args)
    return found


class Files(unittest.TestCase):
    def test_only_python_files_with_plain_names(self):
        for path in sources():
            self.assertRegex(path.name, r"^(__init__|[a-z][a-z0-9_]*)\.py$")

    def test_size_and_signs(self):
        for path in sources():
            text = path.read_text()
            self.assertRegex(text, r"\A[ -~\n]*\Z", path.name)
            self.assertLessEqual(len(text.splitlines()), 400, path.name)
            self.assertLessEqual(max(len(row) for row in text.splitlines()), 120, path.name)

    def test_words_that_are_not_used(self):
        for path in sources():
            self.assertEqual(UNUSED_WORDS & set(re.findall(r"\w+", path.read_text())), set(), path.name)


class Form(unittest.TestCase):
    def test_statements_and_expressions(self):
        for name, node in nodes((ast.stmt, ast.expr)):
            self.assertIsInstance(node, STATEMENTS + EXPRESSIONS, f"{name}:{node.lineno}")

    def test_a_lone_expression_is_a_call_or_the_files_docstring(self):
        for name, tree in trees():
            for node in ast.walk(tree):
                if isinstance(node, ast.Expr) and not is_docstring(tree, node):
                    self.assertIsInstance(node.value, ast.Call, f"{name}:{node.lineno}")

    def test_one_plain_target(self):
        for name, node in nodes(ast.Assign):
            self.assertEqual(len(node.targets), 1, f"{name}:{node.lineno}")

    def test_no_else_behind_a_loop(self):
        for name, node in nodes((ast.For, ast.While)):
            self.assertEqual(node.orelse, [], f"{name}:{node.lineno}")

    def test_comprehensions(self):
        for name, node in nodes(ast.ListComp):
            self.assertEqual(len(node.generators), 1, f"{name}:{node.lineno}")
            self.assertLessEqual(len(node.generators[0].ifs), 1, f"{name}:{node.lineno}")

    def test_constants(self):
        for name, node in nodes(ast.Constant):
            self.assertIsInstance(node.value, (int, str, type(None)), f"{name}:{node.lineno}")

    def test_operators(self):
        for name, node in nodes((ast.Div, ast.MatMult)):
            self.fail(name)

    def test_is_stands_beside_none_true_false(self):
        for name, node in nodes(ast.Compare):
            if any(isinstance(sign, (ast.Is, ast.IsNot)) for sign in node.ops):
                self.assertIsInstance(node.comparators[0], ast.Constant, f"{name}:{node.lineno}")

    def test_a_files_top(self):
        for name, tree in trees():
            for node in tree.body:
                if isinstance(node, ast.Assign):
                    self.assertEqual([type(target) for target in node.targets], [ast.Name], f"{name}:{node.lineno}")
                    self.assertIsNotNone(ast.literal_eval(node.value), f"{name}:{node.lineno}")
                elif not is_docstring(tree, node):
                    self.assertIsInstance(node, (ast.ImportFrom, ast.FunctionDef, ast.ClassDef), f"{name}:{node.lineno}")

    def test_defs(self):
        for name, node in nodes(ast.FunctionDef):
            where = f"{name}:{node.lineno}"
            self.assertLessEqual(node.end_lineno - node.lineno + 1, 40, where)
            self.assertEqual(node.decorator_list, [], where)
            self.assertEqual((node.args.vararg, node.args.kwarg, node.args.kwonlyargs), (None, None, []), where)

    def test_classes_hold_methods_alone(self):
        for name, node in nodes(ast.ClassDef):
            for part in node.body:
                self.assertIsInstance(part, ast.FunctionDef, f"{name}:{part.lineno}")


    def test_what_is_walked_at_once(self):
        for name, tree in trees():
            walked = walked_on_the_spot(tree)
            for node in ast.walk(tree):
                if isinstance(node, ast.Call) and called_name(node) in KEPT_BY_NOBODY:
                    self.assertTrue(any(node is other for other in walked), f"{name}:{node.lineno}")

    def test_sets_are_only_counted(self):
        for name, tree in trees():
            counted = [node.args[0] for node in ast.walk(tree) if isinstance(node, ast.Call)
                       and called_name(node) in ("len", "sorted")]
            for node in ast.walk(tree):
                if isinstance(node, ast.Call) and called_name(node) in ("set", "frozenset"):
                    self.assertTrue(any(node is other for other in counted), f"{name}:{node.lineno}")

    def test_no_def_comes_back_to_itself(self):
        calls = {}
        for name, node in nodes(ast.FunctionDef):
            self.assertNotIn(node.name, set(calls) - {"__init__"}, f"{name}:{node.lineno}: two defs of one name")
            calls[node.name] = {called_name(part) for part in ast.walk(node) if isinstance(part, ast.Call)}
        for start in calls:
            reached = set()
            ahead = set(calls[start])
            while ahead:
                one = ahead.pop()
                reached.add(one)
                ahead |= calls.get(one, set()) - reached
            self.assertNotIn(start, reached)


class Names(unittest.TestCase):
    def test_each_name_of_a_files_top_once(self):
        for name, tree in trees():
            names = top_names(tree)
            self.assertEqual(sorted(names), sorted(set(names)), name)

    def test_no_local_is_called_like_a_class_or_an_import(self):
        for name, tree in trees():
            taken = {alias.name for node in tree.body if isinstance(node, ast.ImportFrom) for alias in node.names}
            taken |= {node.name for node in tree.body if isinstance(node, ast.ClassDef)}
            for node in ast.walk(tree):
                if isinstance(node, ast.arg):
                    self.assertNotIn(node.arg, taken, f"{name}:{node.lineno}")
                if isinstance(node, ast.Name) and isinstance(node.ctx, ast.Store):
                    self.assertNotIn(node.id, taken, f"{name}:{node.lineno}")

    def test_names_of_methods_and_values_are_free(self):
        pythons = {word for kind in (str, int, list, tuple, dict, set, bytes) for word in vars(kind)}
        methods = {part.name for name, node in nodes(ast.ClassDef) for part in node.body}
        values = {node.attr for name, node in nodes(ast.Attribute) if isinstance(node.ctx, ast.Store)}
        self.assertEqual((methods | values) & pythons, {"__init__"} & methods)
        self.assertEqual(methods & values, set())

    def test_imports_are_the_packages_own(self):
        for name, node in nodes(ast.ImportFrom):
            self.assertTrue(node.module.startswith("plainerlines."), f"{name}:{node.lineno}")
            self.assertEqual(node.level, 0, f"{name}:{node.lineno}")

    def test_pythons_own_names(self):
        for name, node in nodes(ast.Name):
            if isinstance(node.ctx, ast.Load) and hasattr(builtins, node.id):
                self.assertIn(node.id, OWN_NAMES, f"{name}:{node.lineno}")

    def test_no_name_of_pythons_own_gets_another_meaning(self):
        for name, node in nodes((ast.Name, ast.arg)):
            if isinstance(node, ast.arg) or isinstance(node.ctx, ast.Store):
                word = node.arg if isinstance(node, ast.arg) else node.id
                self.assertFalse(hasattr(builtins, word), f"{name}:{node.lineno}")
                self.assertFalse(word.startswith("_"), f"{name}:{node.lineno}")

    def test_methods(self):
        own = {node.name for name, node in nodes(ast.FunctionDef)}
        for name, node in nodes(ast.Call):
            if isinstance(node.func, ast.Attribute):
                self.assertIn(node.func.attr, METHODS | own, f"{name}:{node.lineno}")


if __name__ == "__main__":
    unittest.main()

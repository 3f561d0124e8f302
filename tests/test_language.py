"""The package keeps to the part of Python that its language rules (L1 to L28) let by.

Not all of a rule can be seen in the text of a file; what can is looked at here.
"""

import ast
import builtins
import functools
import pathlib
import re
import unittest

FOLDER = pathlib.Path(__file__).resolve().parent.parent / "lodge"
FILES = sorted(path for path in FOLDER.rglob("*") if path.is_file() and "__pycache__" not in path.parts)

STATEMENTS = (
    ast.Assign, ast.AugAssign, ast.If, ast.While, ast.For, ast.Return, ast.Break, ast.Continue, ast.Pass, ast.Raise,
    ast.Try, ast.Expr, ast.FunctionDef, ast.ClassDef, ast.ImportFrom,
)
EXPRESSIONS = (
    ast.Constant, ast.List, ast.Tuple, ast.Dict, ast.Set, ast.BinOp, ast.UnaryOp, ast.Compare, ast.BoolOp, ast.IfExp,
    ast.Call, ast.Attribute, ast.Subscript, ast.Slice, ast.ListComp, ast.JoinedStr, ast.FormattedValue, ast.Name,
    ast.Lambda,
)
OWN_NAMES = set(
    "len range enumerate zip min max sum abs sorted reversed int str bool list tuple dict set frozenset isinstance ord "
    "repr any all divmod Exception ValueError TypeError KeyError IndexError LookupError ZeroDivisionError "
    "ArithmeticError OverflowError RuntimeError NotImplementedError AttributeError StopIteration".split()
)
OWN_METHODS = set(
    "append clear copy count endswith extend find get index insert isalnum isalpha isdigit islower isspace isupper "
    "items join keys ljust lower lstrip partition pop remove replace reverse rfind rjust rpartition rsplit rstrip "
    "setdefault split splitlines startswith strip update upper values zfill bit_length".split()
)
CHANGES = set("append clear extend insert pop remove reverse setdefault update".split())
KEYWORDS = {
    "sorted": {"key", "reverse"}, "min": {"key", "default"}, "max": {"key", "default"}, "sum": {"start"},
    "enumerate": {"start"}, "zip": {"strict"},
}
WALKED_AT_ONCE = {"zip", "enumerate", "reversed", "range"}
WORDS_NOWHERE = re.compile(
    r"\b(type|typing|typing_extensions|enum|Enum|IntEnum|StrEnum|Flag|IntFlag|Generic|Protocol|ABC|ABCMeta|namedtuple|"
    r"NamedTuple|TypedDict|TYPE_CHECKING|abstractmethod)\b|dataclass|overload|contextmanager"
)
NAMES_NOT_USED = set(
    "attrgetter breakpoint builtins compile copyright credits delattr dir eval exec exit gc getattr globals hasattr "
    "help id importlib license locals methodcaller os quit setattr super type vars sys register mro elements open "
    "input version_info with_traceback add_note".split()
)
DOUBLE_METHODS = {"__init__", "__eq__", "__repr__", "__str__", "__len__"}


@functools.cache
def parsed(path):
    return ast.parse(path.read_text(encoding="utf-8"))


def bound_at_top(tree):
    names = []
    for node in tree.body:
        if isinstance(node, (ast.FunctionDef, ast.ClassDef)):
            names.append(node.name)
        elif isinstance(node, ast.Assign):
            names.extend(target.id for target in node.targets)
        elif isinstance(node, ast.ImportFrom):
            names.extend(alias.asname or alias.name for alias in node.names)
    return names


def bound_within(function):
    names = [argument.arg for argument in function.args.args]
    for node in ast.walk(function):
        if isinstance(node, ast.Name) and isinstance(node.ctx, ast.Store):
            names.append(node.id)
    return names


def nodes_of(tree, kinds):
    return [node for node in ast.walk(tree) if isinstance(node, kinds)]


def files_drawn_from(tree):
    return [row.module.split(".")[1] for row in nodes_of(tree, ast.ImportFrom)]


def methods_of(node):
    return [each.name for each in node.body if isinstance(each, ast.FunctionDef)]


@functools.cache
def own_methods():
    classes = [node for path in FILES for node in nodes_of(parsed(path), ast.ClassDef)]
    return {name for node in classes for name in methods_of(node)}


@functools.cache
def own_classes():
    return {node.name for path in FILES for node in nodes_of(parsed(path), ast.ClassDef)}


def walked_by(loop):
    """The texts of all names and values within what a loop walks."""
    return {ast.unparse(node) for node in nodes_of(loop.iter, (ast.Name, ast.Attribute, ast.Subscript))}


def changed_in(loop):
    """The texts of what is changed in a loop's body, by a method or by an index."""
    changed = set()
    for statement in loop.body:
        for node in nodes_of(statement, (ast.Attribute, ast.Subscript)):
            if isinstance(node, ast.Attribute) and node.attr in CHANGES:
                changed.add(ast.unparse(node.value))
            if isinstance(node, ast.Subscript) and isinstance(node.ctx, ast.Store):
                changed.add(ast.unparse(node.value))
    return changed


def for_each_file(test):
    """The test, asked of each file of the package by itself."""
    def ask(self):
        self.assertTrue(FILES)
        for path in FILES:
            with self.subTest(file=path.name):
                test(self, path, parsed(path))
    return ask


class LanguageTest(unittest.TestCase):
    def test_files_l1_l14(self):
        self.assertIn(FOLDER / "__init__.py", FILES)
        for path in FILES:
            self.assertTrue(re.fullmatch(r"[a-z][a-z0-9_]*\.py|__init__\.py|__main__\.py", path.name), path)
            self.assertFalse(re.match(r"tests?\.|testing\.|test_|site|conftest|usercustomize", path.name), path)
            self.assertFalse(hasattr(builtins, path.stem) and not path.stem.startswith("__"), path)

    @for_each_file
    def test_size_and_signs_l10_l14(self, path, tree):
        text = path.read_bytes().decode("utf-8")
        self.assertTrue(all(sign == "\n" or " " <= sign <= "~" for sign in text))
        self.assertLessEqual(text.count("\n"), 400)
        self.assertLessEqual(max(len(line) for line in text.split("\n")), 120)
        for function in nodes_of(tree, ast.FunctionDef):
            self.assertLessEqual(function.end_lineno - function.lineno + 1, 40, function.name)

    @for_each_file
    def test_words_l17(self, path, tree):
        self.assertIsNone(WORDS_NOWHERE.search(path.read_text(encoding="utf-8")))

    @for_each_file
    def test_imports_l2_l16(self, path, tree):
        self.assertEqual(nodes_of(tree, ast.Import), [])
        for row in nodes_of(tree, ast.ImportFrom):
            self.assertIn(row, tree.body)
            self.assertEqual(row.level, 0)
            package, name = row.module.split(".")
            self.assertEqual(package, "lodge")
            source = parsed(FOLDER / f"{name}.py")
            elsewhere = [each.name for other in nodes_of(source, ast.ImportFrom) for each in other.names]
            for alias in row.names:
                self.assertIn(alias.name, bound_at_top(source))
                self.assertNotIn(alias.name, elsewhere)

    def test_no_two_files_draw_from_one_another_l16(self):
        drawn = {path.stem: files_drawn_from(parsed(path)) for path in FILES}
        for start in drawn:
            reached, waiting = set(), list(drawn[start])
            while waiting:
                name = waiting.pop()
                self.assertNotEqual(name, start)
                if name not in reached:
                    reached.add(name)
                    waiting.extend(drawn[name])

    @for_each_file
    def test_top_l3_l15(self, path, tree):
        self.assertTrue(ast.get_docstring(tree))
        for node in tree.body[1:]:
            self.assertIsInstance(node, (ast.ImportFrom, ast.FunctionDef, ast.ClassDef, ast.Assign))
        names = bound_at_top(tree)
        self.assertEqual(len(names), len(set(names)))
        for node in nodes_of(tree, ast.ClassDef):
            self.assertIn(node, tree.body)

    @for_each_file
    def test_functions_l4_l21(self, path, tree):
        for function in nodes_of(tree, ast.FunctionDef):
            told = function.args
            self.assertEqual(function.decorator_list, [])
            self.assertIsNone(function.returns)
            self.assertEqual((told.vararg, told.kwarg, told.kwonlyargs, told.posonlyargs), (None, None, [], []))
            self.assertTrue(all(argument.annotation is None for argument in told.args))

    @for_each_file
    def test_classes_l5_l18(self, path, tree):
        for node in nodes_of(tree, ast.ClassDef):
            self.assertEqual((node.decorator_list, node.keywords), ([], []))
            self.assertLessEqual(len(node.bases), 1)
            self.assertTrue(all(isinstance(each, (ast.FunctionDef, ast.Pass)) for each in node.body), node.name)
            names = methods_of(node)
            self.assertEqual(len(names), len(set(names)))
        for node in nodes_of(tree, ast.Attribute):
            if isinstance(node.ctx, ast.Store):
                self.assertIsInstance(node.value, ast.Name)

    def test_methods_and_values_l18_l26(self):
        methods, values = own_methods(), set()
        for path in FILES:
            for node in nodes_of(parsed(path), ast.Attribute):
                if isinstance(node.ctx, ast.Store):
                    values.add(node.attr)
        self.assertEqual(methods & values, set())
        of_python = set().union(*(dir(kind) for kind in (str, int, list, dict, set, bytes)))
        may_be = set("count index title find get join lower upper split strip copy add".split())
        self.assertEqual((values & of_python) - may_be, set())
        self.assertEqual((methods & of_python) - OWN_METHODS - {"add", "discard"} - DOUBLE_METHODS, set())

    @for_each_file
    def test_statements_l6(self, path, tree):
        for node in nodes_of(tree, ast.stmt):
            self.assertIsInstance(node, STATEMENTS)
            if isinstance(node, ast.Assign):
                self.assertEqual(len(node.targets), 1)
                self.assertIsInstance(node.targets[0], (ast.Name, ast.Attribute, ast.Subscript, ast.Tuple))
            if isinstance(node, (ast.For, ast.While)):
                self.assertEqual(node.orelse, [])
            if isinstance(node, ast.Try):
                self.assertEqual(node.finalbody, [])
                self.assertTrue(all(handler.type is not None for handler in node.handlers))
            if isinstance(node, ast.Expr) and node is not tree.body[0]:
                self.assertIsInstance(node.value, ast.Call)
            if isinstance(node, ast.Raise):
                self.assertIsInstance(node.exc, ast.Call)

    @for_each_file
    def test_expressions_l7_l20_l27(self, path, tree):
        for node in nodes_of(tree, ast.expr):
            self.assertIsInstance(node, EXPRESSIONS)
        for node in nodes_of(tree, ast.Constant):
            self.assertIsInstance(node.value, (int, str, bool, None.__class__))
            self.assertFalse(isinstance(node.value, str) and "%" in node.value)
        for node in nodes_of(tree, (ast.BinOp, ast.AugAssign)):
            self.assertNotIsInstance(node.op, (ast.Div, ast.MatMult))
            if isinstance(node.op, ast.Pow):
                self.assertIsInstance(node.right, ast.Constant)
        for node in nodes_of(tree, ast.ListComp):
            self.assertEqual(len(node.generators), 1)
            self.assertLessEqual(len(node.generators[0].ifs), 1)
        for node in nodes_of(tree, ast.Compare):
            for sign, right in zip(node.ops, node.comparators):
                if isinstance(sign, (ast.Is, ast.IsNot)):
                    self.assertTrue(isinstance(right, ast.Constant) and right.value in (None, True, False))

    @for_each_file
    def test_names_l8_l12_l15(self, path, tree):
        known = set(bound_at_top(tree))
        for function in nodes_of(tree, (ast.FunctionDef, ast.Lambda)):
            inner = set(bound_within(function))
            self.assertEqual(inner & set(dir(builtins)), set())
            self.assertEqual(inner & set(bound_at_top(tree)), set())
            known |= inner
        for name in known:
            self.assertTrue(re.fullmatch(r"[A-Za-z][A-Za-z0-9_]*", name), name)
        for node in nodes_of(tree, ast.Name):
            self.assertIn(node.id, known | OWN_NAMES)

    @for_each_file
    def test_names_that_are_not_used_l17(self, path, tree):
        names = {node.id for node in nodes_of(tree, ast.Name)} | set(bound_at_top(tree))
        names |= {node.arg for node in nodes_of(tree, ast.arg)} | {node.attr for node in nodes_of(tree, ast.Attribute)}
        self.assertEqual(names & NAMES_NOT_USED, set())

    @for_each_file
    def test_classes_are_called_or_bases_l18_l19(self, path, tree):
        allowed = [base for node in nodes_of(tree, ast.ClassDef) for base in node.bases]
        allowed.extend(node.func for node in nodes_of(tree, ast.Call))
        allowed.extend(argument for node in nodes_of(tree, ast.Call) for argument in node.args[1:])
        allowed.extend(node.type for node in nodes_of(tree, ast.ExceptHandler))
        allowed.extend(node.value for node in nodes_of(tree, ast.Attribute) if node.attr == "__init__")
        for node in nodes_of(tree, ast.Name):
            if node.id in own_classes():
                self.assertIn(node, allowed)
        for node in nodes_of(tree, ast.Raise):
            self.assertIn(node.exc.func.id, own_classes())

    @for_each_file
    def test_init_gives_back_nothing_l28(self, path, tree):
        for function in nodes_of(tree, ast.FunctionDef):
            if function.name.startswith("__"):
                self.assertIn(function.name, DOUBLE_METHODS)
            if function.name == "__init__":
                self.assertEqual(nodes_of(function, ast.Return), [])

    @for_each_file
    def test_methods_l25(self, path, tree):
        for node in nodes_of(tree, ast.Call):
            if isinstance(node.func, ast.Attribute):
                self.assertIn(node.func.attr, own_methods() | OWN_METHODS)

    @for_each_file
    def test_walked_and_sets_l23_l24(self, path, tree):
        allowed = []
        for node in nodes_of(tree, (ast.For, ast.comprehension)):
            allowed.append(node.iter)
        for node in nodes_of(tree, ast.Call):
            if isinstance(node.func, ast.Name):
                allowed.extend(node.args[:1])
        for node in nodes_of(tree, ast.Compare):
            allowed.extend(node.comparators + [node.left])
        for node in nodes_of(tree, ast.Call):
            if isinstance(node.func, ast.Name) and node.func.id in WALKED_AT_ONCE | {"set"}:
                self.assertIn(node, allowed)

    @for_each_file
    def test_what_a_loop_walks_is_not_changed_in_it_l23(self, path, tree):
        for loop in nodes_of(tree, ast.For):
            self.assertEqual(walked_by(loop) & changed_in(loop), set(), loop.lineno)

    @for_each_file
    def test_keywords_l22(self, path, tree):
        for node in nodes_of(tree, ast.Call):
            name = node.func.id if isinstance(node.func, ast.Name) else None
            self.assertLessEqual({keyword.arg for keyword in node.keywords}, KEYWORDS.get(name, set()))


if __name__ == "__main__":
    unittest.main()

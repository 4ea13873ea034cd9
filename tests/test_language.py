"""The package keeps to the part of Python that the program is written in (what of it can be seen by its form)."""

import ast
import pathlib
import re
import unittest

PACKAGE = pathlib.Path(__file__).resolve().parent.parent / "signsonly"

STATEMENTS = (
    ast.Assign, ast.AugAssign, ast.If, ast.While, ast.For, ast.Return, ast.Break, ast.Continue, ast.Pass, ast.Raise,
    ast.Try, ast.Expr, ast.FunctionDef, ast.ClassDef, ast.ImportFrom,
)
EXPRESSIONS = (
    ast.Constant, ast.Name, ast.List, ast.Tuple, ast.Dict, ast.Set, ast.BinOp, ast.UnaryOp, ast.BoolOp, ast.Compare,
    ast.IfExp, ast.Call, ast.Attribute, ast.Subscript, ast.Slice, ast.ListComp, ast.Lambda, ast.JoinedStr,
    ast.FormattedValue,
)
OWN_NAMES = set(
    "len range enumerate zip min max sum abs sorted reversed int str bool list tuple dict set frozenset isinstance ord "
    "repr any all divmod Exception ValueError TypeError KeyError IndexError LookupError ZeroDivisionError "
    "ArithmeticError OverflowError RuntimeError NotImplementedError AttributeError StopIteration".split()
)
OWN_METHODS = set(
    "append clear copy count endswith extend find get index insert isalnum isalpha isdigit islower isspace isupper "
    "items join keys ljust lower lstrip partition pop remove replace reverse rfind rjust rpartition rsplit rstrip "
    "setdefault split splitlines startswith strip update upper values zfill bit_length".split()
)
WORDS_OUT = re.compile(
    r"\b(type|typing|typing_extensions|enum|Enum|IntEnum|StrEnum|Flag|IntFlag|Generic|Protocol|ABC|ABCMeta|namedtuple"
    r"|NamedTuple|TypedDict|TYPE_CHECKING|abstractmethod)\b|dataclass|overload|contextmanager"
)
BUILTINS = set(dir(__builtins__) if not isinstance(__builtins__, dict) else __builtins__)


def files():
    return sorted(PACKAGE.rglob("*.py"))


def trees():
    return [(path, ast.parse(path.read_text())) for path in files()]


def bound_names(tree):
    """Every name that a file binds: at its top, as a parameter or as a local."""
    names = []
    for node in ast.walk(tree):
        if isinstance(node, (ast.FunctionDef, ast.ClassDef)):
            names.append(node.name)
        elif isinstance(node, ast.arg):
            names.append(node.arg)
        elif isinstance(node, ast.alias):
            names.append(node.name)
        elif isinstance(node, ast.Name) and isinstance(node.ctx, ast.Store):
            names.append(node.id)
    return names


class Language(unittest.TestCase):
    def test_files(self):
        self.assertIn(PACKAGE / "__init__.py", files())
        for path in PACKAGE.rglob("*"):
            if "__pycache__" not in path.parts:
                self.assertRegex(path.name, r"\A([a-z][a-z0-9_]*|__init__|__main__)\.py\Z")

    def test_signs_words_and_size(self):
        for path in files():
            text = path.read_bytes().decode("ascii")
            self.assertRegex(text, r"\A[ -~\n]*\Z", path)
            self.assertIsNone(WORDS_OUT.search(text), path)
            lines = text.split("\n")
            self.assertLessEqual(len(lines), 400, path)
            self.assertLessEqual(max(len(line) for line in lines), 120, path)

    def test_functions_are_short_and_plain(self):
        for path, tree in trees():
            for node in ast.walk(tree):
                if isinstance(node, ast.FunctionDef):
                    self.assertLessEqual(node.end_lineno - node.lineno + 1, 40, (path, node.name))
                    self.assertEqual(node.decorator_list, [])
                    given = node.args
                    self.assertEqual((given.vararg, given.kwarg, given.kwonlyargs, given.posonlyargs), (None, None, [], []))

    def test_statements_and_expressions(self):
        for path, tree in trees():
            for node in ast.walk(tree):
                where = (path.name, getattr(node, "lineno", None))
                if isinstance(node, ast.stmt):
                    self.assertIsInstance(node, STATEMENTS, where)
                if isinstance(node, ast.expr):
                    self.assertIsInstance(node, EXPRESSIONS, where)
                if isinstance(node, (ast.For, ast.While)):
                    self.assertEqual(node.orelse, [], where)
                if isinstance(node, ast.Assign):
                    self.assertEqual(len(node.targets), 1, where)
                if isinstance(node, ast.ListComp):
                    self.assertEqual(len(node.generators), 1, where)
                    self.assertLessEqual(len(node.generators[0].ifs), 1, where)
                if isinstance(node, ast.Constant):
                    self.assertIn(type(node.value), (int, str, bool, type(None)), where)
                self.assertNotIsInstance(node, (ast.Div, ast.MatMult, ast.Is, ast.IsNot), where)

    def test_imports_are_the_package_s_own_by_full_name(self):
        for path, tree in trees():
            for node in ast.walk(tree):
                if isinstance(node, ast.ImportFrom):
                    self.assertIn(node, tree.body)
                    self.assertEqual(node.level, 0)
                    drawn_from = PACKAGE.parent / (node.module.replace(".", "/") + ".py")
                    defined = bound_names(ast.parse(drawn_from.read_text()))
                    for alias in node.names:
                        self.assertIn(alias.name, defined, path)

    def test_names(self):
        for path, tree in trees():
            bound = bound_names(tree)
            functions = [node.name for node in ast.walk(tree) if isinstance(node, ast.FunctionDef)]
            for name in bound:
                self.assertTrue(name == "__init__" or re.fullmatch(r"[A-Za-z][A-Za-z0-9_]*", name), (path, name))
                self.assertNotIn(name, BUILTINS, path)
            for node in ast.walk(tree):
                if isinstance(node, ast.Name) and node.id not in bound:
                    self.assertIn(node.id, OWN_NAMES, path)
                if isinstance(node, ast.Call) and isinstance(node.func, ast.Attribute):
                    self.assertIn(node.func.attr, OWN_METHODS | set(functions), path)

    def test_each_name_once_at_a_file_s_top(self):
        for path, tree in trees():
            top = []
            for node in tree.body:
                if isinstance(node, (ast.FunctionDef, ast.ClassDef)):
                    top.append(node.name)
                elif isinstance(node, ast.Assign):
                    top.append(node.targets[0].id)
                elif isinstance(node, ast.ImportFrom):
                    top.extend(alias.name for alias in node.names)
                else:
                    self.assertIsInstance(node.value, ast.Constant, path)
            self.assertEqual(len(top), len(set(top)), path)

    def test_no_annotations(self):
        for path, tree in trees():
            for node in ast.walk(tree):
                if isinstance(node, ast.FunctionDef):
                    self.assertIsNone(node.returns, (path.name, node.name))
                if isinstance(node, ast.arg):
                    self.assertIsNone(node.annotation, (path.name, node.arg))

    def test_no_local_is_called_like_a_class_or_an_import(self):
        for path, tree in trees():
            taken = [node.name for node in tree.body if isinstance(node, ast.ClassDef)]
            taken += [alias.name for node in tree.body if isinstance(node, ast.ImportFrom) for alias in node.names]
            for function in ast.walk(tree):
                if isinstance(function, ast.FunctionDef):
                    local = [node.arg for node in ast.walk(function) if isinstance(node, ast.arg)]
                    local += [
                        node.id for node in ast.walk(function)
                        if isinstance(node, ast.Name) and isinstance(node.ctx, ast.Store)
                    ]
                    self.assertEqual(set(local) & set(taken), set(), (path.name, function.name))

    def test_what_a_file_s_top_keeps_is_plain_and_only_read(self):
        for path, tree in trees():
            kept = []
            for node in tree.body:
                if isinstance(node, ast.Assign):
                    whole = node.value
                    inner = [part for part in ast.walk(whole) if part is not whole]
                    self.assertFalse(any(isinstance(part, (ast.List, ast.Dict, ast.Call)) for part in inner), path.name)
                    if isinstance(whole, (ast.List, ast.Dict)):
                        kept.append(node.targets[0].id)
            indexed = [
                node.value for node in ast.walk(tree)
                if isinstance(node, ast.Subscript) and isinstance(node.ctx, ast.Load)
            ]
            for node in ast.walk(tree):
                if isinstance(node, ast.Name) and node.id in kept and isinstance(node.ctx, ast.Load):
                    self.assertIn(node, indexed, (path.name, node.lineno))

    def test_classes_are_plain_and_only_called(self):
        for path, tree in trees():
            classes = [node for node in tree.body if isinstance(node, ast.ClassDef)]
            called = [node.func for node in ast.walk(tree) if isinstance(node, ast.Call)]
            for node in classes:
                self.assertEqual((node.bases, node.keywords, node.decorator_list), ([], [], []), path.name)
                self.assertEqual(ast.get_docstring(node) is None, isinstance(node.body[0], ast.FunctionDef))
                methods = [part.name for part in node.body if isinstance(part, ast.FunctionDef)]
                self.assertLessEqual(len(node.body) - len(methods), 1, path.name)
                self.assertEqual(len(methods), len(set(methods)), path.name)
                self.assertEqual([name for name in methods if name.startswith("__")], ["__init__"])
                values = [part.attr for part in ast.walk(node) if isinstance(part, ast.Attribute)
                          and isinstance(part.ctx, ast.Store)]
                self.assertEqual(set(methods) & set(values), set(), path.name)
            names = [node.name for node in classes]
            for node in ast.walk(tree):
                if isinstance(node, ast.Name) and node.id in names:
                    self.assertIn(node, called, (path.name, node.lineno))

    def test_walked_at_once(self):
        for path, tree in trees():
            walked = []
            for node in ast.walk(tree):
                if isinstance(node, (ast.For, ast.comprehension)):
                    walked.append(node.iter)
                if isinstance(node, ast.Call) and isinstance(node.func, ast.Name) and node.args:
                    if node.func.id in ("list", "tuple", "dict", "sorted", "sum", "any", "all", "enumerate", "zip"):
                        walked.append(node.args[0])
            for node in ast.walk(tree):
                if isinstance(node, ast.Call):
                    name = getattr(node.func, "id", getattr(node.func, "attr", None))
                    if name in ("zip", "enumerate", "reversed", "range", "items", "keys", "values"):
                        self.assertIn(node, walked, (path.name, node.lineno))

    def test_what_a_loop_walks_is_not_changed_in_it(self):
        changing = ("append", "clear", "extend", "insert", "pop", "remove", "reverse", "setdefault", "update")
        for path, tree in trees():
            for around in ast.walk(tree):
                if isinstance(around, ast.For):
                    walked = {node.id for node in ast.walk(around.iter) if isinstance(node, ast.Name)} - OWN_NAMES
                    for node in [part for line in around.body for part in ast.walk(line)]:
                        where = (path.name, getattr(node, "lineno", None))
                        if isinstance(node, ast.Attribute) and node.attr in changing:
                            self.assertNotIn(getattr(node.value, "id", None), walked, where)
                        if isinstance(node, (ast.Name, ast.Subscript)) and isinstance(node.ctx, ast.Store):
                            changed = getattr(node, "id", None) or getattr(node.value, "id", None)
                            self.assertNotIn(changed, walked, where)

    def test_no_sets_no_powers_no_percent_in_texts(self):
        for path, tree in trees():
            for node in ast.walk(tree):
                where = (path.name, getattr(node, "lineno", None))
                self.assertNotIsInstance(node, (ast.Set, ast.Pow), where)
                if isinstance(node, ast.Name):
                    self.assertNotIn(node.id, ("set", "frozenset"), where)
                if isinstance(node, ast.Constant) and isinstance(node.value, str):
                    self.assertNotIn(chr(37), node.value, where)

    def test_no_two_files_draw_from_one_another(self):
        drawn = {}
        for path, tree in trees():
            drawn[path.stem] = {node.module.split(".")[1] for node in tree.body if isinstance(node, ast.ImportFrom)}
        while drawn:
            free = [name for name in drawn if not drawn[name] & set(drawn)]
            self.assertTrue(free, drawn)
            for name in free:
                drawn.pop(name)


if __name__ == "__main__":
    unittest.main()

"""The package keeps to shared/LANGUAGE.md, as far as its rules can be seen in the files (often more narrowly)."""

import ast
import builtins
import pathlib
import re
import unittest

PACKAGE = pathlib.Path(__file__).resolve().parent.parent / "wordrunner"
FILES = sorted(path for path in PACKAGE.rglob("*") if "__pycache__" not in path.parts)
TREES = {path.stem: ast.parse(path.read_text()) for path in FILES if path.suffix == ".py"}

STATEMENTS = (
    ast.Assign, ast.AugAssign, ast.If, ast.While, ast.For, ast.Return, ast.Break, ast.Continue, ast.Pass, ast.Raise,
    ast.Try, ast.Expr, ast.FunctionDef, ast.ClassDef, ast.ImportFrom,
)
EXPRESSIONS = (
    ast.BinOp, ast.UnaryOp, ast.BoolOp, ast.Compare, ast.IfExp, ast.Call, ast.Attribute, ast.Subscript, ast.Slice,
    ast.ListComp, ast.Name, ast.Constant, ast.List, ast.Tuple, ast.Dict, ast.Lambda, ast.JoinedStr, ast.FormattedValue,
)
OPERATORS = (
    ast.Add, ast.Sub, ast.Mult, ast.FloorDiv, ast.Mod, ast.LShift, ast.RShift, ast.BitAnd, ast.BitOr, ast.BitXor,
)
OWN_OF_PYTHON = (
    "len range enumerate zip min max sum abs sorted reversed int str bool list tuple dict isinstance repr any all divmod "
    "Exception ValueError KeyError IndexError LookupError ZeroDivisionError True False None"
).split()
METHODS_OF_PYTHON = (
    "append clear copy count endswith extend find get index insert isalnum isalpha isdigit islower isspace isupper items "
    "join keys ljust lower lstrip partition pop remove replace reverse rfind rjust rpartition rsplit rstrip setdefault "
    "split splitlines startswith strip update upper values zfill bit_length"
).split()
UNUSED_NAMES = (
    "register mro elements open input version_info with_traceback add_note attrgetter breakpoint builtins compile "
    "copyright credits delattr dir eval exec exit gc getattr globals hasattr help id importlib license locals "
    "methodcaller os quit setattr super type vars sys format format_map"
).split()
UNUSED_WORDS = re.compile(
    r"\b(type|typing|typing_extensions|enum|Enum|IntEnum|StrEnum|Flag|IntFlag|Generic|Protocol|ABC|ABCMeta|namedtuple|"
    r"NamedTuple|TypedDict|TYPE_CHECKING|abstractmethod)\b|dataclass|overload|contextmanager"
)
FAULTS = ["PastMemory", "NoInstruction", "NotAllowed", "NothingPushed", "TooMuchPushed"]


def nodes(kind):
    return [(stem, node) for stem, tree in TREES.items() for node in ast.walk(tree) if isinstance(node, kind)]


def top_names(tree):
    found = []
    for node in tree.body:
        if isinstance(node, (ast.FunctionDef, ast.ClassDef)):
            found.append(node.name)
        elif isinstance(node, ast.Assign):
            found.append(node.targets[0].id)
        elif isinstance(node, ast.ImportFrom):
            found += [alias.name for alias in node.names]
    return found


def own_names(tree):
    imported = [alias.name for node in tree.body if isinstance(node, ast.ImportFrom) for alias in node.names]
    return [name for name in top_names(tree) if name not in imported]


def is_text(node):
    return isinstance(node, ast.Expr) and isinstance(node.value, ast.Constant) and isinstance(node.value.value, str)


def local_names(function):
    names = [argument.arg for argument in function.args.args]
    for node in ast.walk(function):
        if isinstance(node, ast.Name) and isinstance(node.ctx, ast.Store):
            names.append(node.id)
    return names


class Files(unittest.TestCase):
    def test_names_and_signs(self):
        self.assertIn("__init__", TREES)
        for path in FILES:
            self.assertRegex(path.name, r"^([a-z][a-z0-9_]*|__init__)\.py$")
            self.assertEqual(path.parent, PACKAGE)
            self.assertFalse(hasattr(builtins, path.stem) and path.stem != "__init__", path)
            self.assertNotRegex(path.stem, r"^(test.*|site|conftest|sitecustomize|usercustomize|main)$")
            self.assertRegex(path.read_text(), r"\A[\n -~]*\Z")

    def test_size(self):
        for path in FILES:
            lines = path.read_text().split("\n")
            self.assertLessEqual(len(lines), 400)
            self.assertLessEqual(max(len(line) for line in lines), 120, path)
        for stem, node in nodes(ast.FunctionDef):
            self.assertLessEqual(node.end_lineno - node.lineno + 1, 40, (stem, node.name))

    def test_words(self):
        for path in FILES:
            self.assertIsNone(UNUSED_WORDS.search(path.read_text()), path)

    def test_imports(self):
        for stem, node in nodes((ast.Import, ast.ImportFrom)):
            self.assertIsInstance(node, ast.ImportFrom)
            self.assertEqual(node.level, 0)
            package, name = node.module.split(".")
            self.assertEqual(package, "wordrunner")
            for alias in node.names:
                self.assertIsNone(alias.asname)
                self.assertIn(alias.name, own_names(TREES[name]), (stem, alias.name))

    def test_imports_are_used(self):
        for stem, tree in TREES.items():
            used = {node.id for node in ast.walk(tree) if isinstance(node, ast.Name)}
            for node in tree.body:
                if isinstance(node, ast.ImportFrom):
                    self.assertLessEqual({alias.name for alias in node.names}, used, stem)

    def test_no_file_draws_from_itself(self):
        draws = {stem: [] for stem in TREES}
        for stem, node in nodes(ast.ImportFrom):
            draws[stem].append(node.module.split(".")[1])
        left = dict(draws)
        while left:
            free = [stem for stem, others in left.items() if not set(others) & set(left)]
            self.assertTrue(free, left)
            left = {stem: others for stem, others in left.items() if stem not in free}

    def test_the_top(self):
        for stem, tree in TREES.items():
            self.assertTrue(is_text(tree.body[0]), stem)
            for node in tree.body[1:]:
                self.assertIsInstance(node, (ast.ImportFrom, ast.FunctionDef, ast.ClassDef, ast.Assign))
            names = top_names(tree)
            self.assertEqual(len(names), len(set(names)), stem)
            above = []
            for node in tree.body[1:]:
                if isinstance(node, ast.FunctionDef):
                    above.append(node.name)
                elif isinstance(node, ast.Assign):
                    self.check_plain(node.value, above)

    def check_plain(self, value, above):
        for node in ast.walk(value):
            self.assertIsInstance(node, (ast.Constant, ast.Tuple, ast.Dict, ast.Name, ast.Load))
            if isinstance(node, ast.Name):
                self.assertIn(node.id, above)
            if isinstance(node, ast.Dict):
                self.assertIs(node, value)


class Statements(unittest.TestCase):
    def test_kinds(self):
        for stem, node in nodes((ast.stmt, ast.expr, ast.operator)):
            self.assertIsInstance(node, STATEMENTS + EXPRESSIONS + OPERATORS, (stem, getattr(node, "lineno", 0)))

    def test_assignments(self):
        for stem, node in nodes(ast.Assign):
            self.assertEqual(len(node.targets), 1)
            self.assertIsInstance(node.targets[0], (ast.Name, ast.Attribute, ast.Subscript), (stem, node.lineno))
            if isinstance(node.targets[0], ast.Subscript):
                self.assertNotIsInstance(node.targets[0].slice, ast.Slice)

    def test_expressions_by_themselves(self):
        for stem, node in nodes(ast.Expr):
            self.assertTrue(is_text(node) or isinstance(node.value, ast.Call), (stem, node.lineno))

    def test_loops_and_tries(self):
        for stem, node in nodes((ast.For, ast.While)):
            self.assertEqual(node.orelse, [])
        for stem, node in nodes(ast.Try):
            self.assertEqual(node.finalbody, [])
            for handler in node.handlers:
                self.assertIn(handler.type.id, FAULTS)
        for stem, node in nodes(ast.Raise):
            self.assertIn(node.exc.func.id, FAULTS)

    def test_functions(self):
        for stem, node in nodes(ast.FunctionDef):
            rules = node.args
            self.assertFalse(node.decorator_list or rules.vararg or rules.kwarg or rules.kwonlyargs or rules.posonlyargs)
            self.assertFalse(node.returns or any(argument.annotation for argument in rules.args))

    def test_classes(self):
        for stem, node in nodes(ast.ClassDef):
            self.assertFalse(node.decorator_list or node.keywords)
            self.assertLessEqual(len(node.bases), 1)
            for part in node.body:
                self.assertTrue(isinstance(part, ast.FunctionDef) or is_text(part), (stem, node.name))

    def test_comparisons(self):
        for stem, node in nodes((ast.Is, ast.IsNot)):
            self.fail(stem)

    def test_comprehensions(self):
        for stem, node in nodes(ast.ListComp):
            self.assertEqual(len(node.generators), 1)
            self.assertLessEqual(len(node.generators[0].ifs), 1)

    def test_constants(self):
        for stem, node in nodes(ast.Constant):
            self.assertIn(type(node.value), (int, str, bool, type(None)))
            if isinstance(node.value, str):
                self.assertNotIn("%", node.value)

    def test_calls_have_no_keywords(self):
        for stem, node in nodes(ast.Call):
            self.assertEqual(node.keywords, [])


class Names(unittest.TestCase):
    def test_form(self):
        for stem, node in nodes((ast.Name, ast.Attribute, ast.arg, ast.FunctionDef, ast.ClassDef)):
            name = getattr(node, "id", None) or getattr(node, "attr", None) or getattr(node, "arg", None) or node.name
            self.assertTrue(re.fullmatch(r"[A-Za-z][A-Za-z0-9_]*", name) or name == "__init__", (stem, name))
            self.assertNotIn(name, UNUSED_NAMES, stem)

    def test_every_name_is_known(self):
        for stem, tree in TREES.items():
            known = set(top_names(tree)) | set(OWN_OF_PYTHON)
            for function in [node for node in ast.walk(tree) if isinstance(node, ast.FunctionDef)]:
                inner = known | set(local_names(function))
                for node in ast.walk(function):
                    if isinstance(node, ast.Name):
                        self.assertIn(node.id, inner, stem)

    def test_locals_hide_nothing(self):
        for stem, tree in TREES.items():
            for function in [node for node in ast.walk(tree) if isinstance(node, ast.FunctionDef)]:
                for name in local_names(function):
                    self.assertNotIn(name, top_names(tree), (stem, function.name))
                    self.assertFalse(hasattr(builtins, name), (stem, function.name, name))
            for name in top_names(tree):
                self.assertFalse(hasattr(builtins, name), (stem, name))

    def test_methods_and_values(self):
        methods = set()
        values = set()
        for stem, node in nodes(ast.ClassDef):
            methods |= {part.name for part in node.body if isinstance(part, ast.FunctionDef)}
        for stem, node in nodes(ast.Attribute):
            if isinstance(node.ctx, ast.Store):
                values.add(node.attr)
        self.assertFalse(methods & values)
        taken = {name for kind in (str, int, list, dict, set, bytes) for name in dir(kind)} - {"__init__"}
        self.assertFalse((methods | values) & taken)
        for stem, node in nodes(ast.Attribute):
            self.assertIn(node.attr, methods | values | set(METHODS_OF_PYTHON), stem)

    def test_lists_of_the_top_are_only_read(self):
        for stem, tree in TREES.items():
            kept = [node.targets[0].id for node in tree.body if isinstance(node, ast.Assign)
                    and isinstance(node.value, (ast.List, ast.Dict))]
            indexed = [node.value for node in ast.walk(tree)
                       if isinstance(node, ast.Subscript) and isinstance(node.ctx, ast.Load)]
            for node in ast.walk(tree):
                if isinstance(node, ast.Name) and node.id in kept and isinstance(node.ctx, ast.Load):
                    self.assertTrue(any(node is one for one in indexed), (stem, node.id))


if __name__ == "__main__":
    unittest.main()

"""The package keeps to the part of Python it is to be written in, as far as a look at its files can tell."""

import ast
import builtins
import pathlib
import re
import unittest

PACKAGE = pathlib.Path(__file__).resolve().parent.parent / "netwanderers"
FILES = sorted(PACKAGE.rglob("*.py"))

NODES = (
    "Module Import ImportFrom alias FunctionDef arguments arg Lambda ClassDef Assign AugAssign If While For Return "
    "Break Continue Pass Raise Try ExceptHandler Expr Constant Name Load Store List Tuple Dict Set BinOp UnaryOp "
    "BoolOp Compare IfExp Call keyword Attribute Subscript Slice ListComp comprehension JoinedStr FormattedValue "
    "Add Sub Mult FloorDiv Mod Pow BitAnd BitOr BitXor LShift RShift Invert USub UAdd Not And Or "
    "Eq NotEq Lt LtE Gt GtE Is IsNot In NotIn"
).split()
BUILTINS = (
    "len range enumerate zip min max sum abs sorted reversed int str bool list tuple dict set frozenset isinstance "
    "ord repr any all divmod Exception ValueError TypeError KeyError IndexError LookupError ZeroDivisionError "
    "ArithmeticError OverflowError RuntimeError NotImplementedError AttributeError StopIteration"
).split()
METHODS = (
    "append clear copy count endswith extend find get index insert isalnum isalpha isdigit islower isspace isupper "
    "items join keys ljust lower lstrip partition pop remove replace reverse rfind rjust rpartition rsplit rstrip "
    "setdefault split splitlines startswith strip update upper values zfill bit_length"
).split()
WORDS_OUT = (
    "type typing typing_extensions enum Enum IntEnum StrEnum Flag IntFlag Generic Protocol ABC ABCMeta namedtuple "
    "NamedTuple TypedDict TYPE_CHECKING abstractmethod"
).split()


def bound(tree):
    """All names that a file binds."""
    names = set()
    for node in ast.walk(tree):
        if isinstance(node, ast.Name) and isinstance(node.ctx, ast.Store):
            names.add(node.id)
        elif isinstance(node, ast.arg):
            names.add(node.arg)
        elif isinstance(node, (ast.FunctionDef, ast.ClassDef)):
            names.add(node.name)
        elif isinstance(node, ast.alias):
            names.add(node.asname or node.name)
    return names


def each():
    """Of each file its name, its text and what it's parsed to."""
    texts = [(path.name, path.read_text(encoding="utf-8")) for path in FILES]
    return [(name, text, ast.parse(text)) for name, text in texts]


def methods_of(tree):
    """The methods of all classes of a file."""
    names = set()
    for node in ast.walk(tree):
        if isinstance(node, ast.ClassDef):
            names.update(part.name for part in node.body if isinstance(part, ast.FunctionDef))
    return names


def is_out(node):
    """Whether a node of the language is used in a way that's ruled out."""
    if isinstance(node, ast.Constant):
        return isinstance(node.value, (float, bytes, complex))
    if isinstance(node, (ast.For, ast.While)):
        return bool(node.orelse)
    if isinstance(node, ast.Assign):
        return len(node.targets) != 1
    if isinstance(node, (ast.FunctionDef, ast.ClassDef)):
        return bool(node.decorator_list)
    if isinstance(node, ast.ListComp):
        return len(node.generators) != 1
    return node.__class__.__name__ not in NODES


class Language(unittest.TestCase):
    def test_there_are_files_and_nothing_else(self):
        self.assertIn(PACKAGE / "__init__.py", FILES)
        others = [path for path in PACKAGE.rglob("*") if path.is_file() and path not in FILES]
        self.assertEqual([path for path in others if path.parent.name != "__pycache__"], [])

    def test_signs_and_sizes(self):
        for file, text, tree in each():
            self.assertEqual(re.findall(r"[^ -~\n]", text), [], file)
            rows = text.split("\n")
            self.assertLessEqual(len(rows), 400, file)
            self.assertLessEqual(max(len(row) for row in rows), 120, file)
            for node in ast.walk(tree):
                if isinstance(node, ast.FunctionDef):
                    self.assertLessEqual(node.end_lineno - node.lineno + 1, 40, (file, node.name))

    def test_words_that_stand_nowhere(self):
        for file, text, tree in each():
            self.assertEqual([word for word in re.findall(r"\w+", text) if word in WORDS_OUT], [], file)
            self.assertEqual(re.findall("dataclass|overload|contextmanager", text), [], file)

    def test_only_what_the_language_has(self):
        for file, text, tree in each():
            self.assertEqual([ast.unparse(node) for node in ast.walk(tree) if is_out(node)], [], file)

    def test_imports_are_the_packages_own(self):
        for file, text, tree in each():
            for node in ast.walk(tree):
                self.assertNotIsInstance(node, ast.Import, file)
                if isinstance(node, ast.ImportFrom):
                    self.assertEqual(node.level, 0, file)
                    self.assertTrue(node.module.startswith("netwanderers."), (file, node.module))
                    self.assertIn(node, tree.body, file)

    def test_names(self):
        for file, text, tree in each():
            names = bound(tree)
            self.assertEqual(sorted(name for name in names if name in BUILTINS), [], file)
            for name in names:
                self.assertTrue(re.fullmatch("[A-Za-z][A-Za-z0-9_]*", name) or name == "__init__", (file, name))
            for node in ast.walk(tree):
                if isinstance(node, ast.Name):
                    self.assertIn(node.id, sorted(names) + BUILTINS, file)

    def test_each_name_once_and_none_of_pythons_own(self):
        for file, text, tree in each():
            imports = [alias.name for node in tree.body if isinstance(node, ast.ImportFrom) for alias in node.names]
            top = imports + [node.name for node in tree.body if isinstance(node, (ast.FunctionDef, ast.ClassDef))]
            top += [node.targets[0].id for node in tree.body if isinstance(node, ast.Assign)]
            self.assertEqual(sorted(top), sorted(set(top)), file)
            classes = [node.name for node in tree.body if isinstance(node, ast.ClassDef)]
            for function in [node for node in ast.walk(tree) if isinstance(node, ast.FunctionDef)]:
                own = [node.arg for node in ast.walk(function) if isinstance(node, ast.arg)]
                own += [node.id for node in ast.walk(function) if isinstance(node, ast.Name)
                        and isinstance(node.ctx, ast.Store)]
                out = imports + classes + dir(builtins)
                self.assertEqual([name for name in own if name in out], [], (file, function.name))

    def test_no_two_files_draw_from_one_another(self):
        drawn = {}
        for file, text, tree in each():
            drawn[file] = [node.module.split(".")[1] + ".py" for node in tree.body if isinstance(node, ast.ImportFrom)]
        for file in drawn:
            beyond = list(drawn[file])
            for other in beyond:
                beyond.extend(name for name in drawn[other] if name not in beyond)
            self.assertNotIn(file, beyond)

    def test_methods(self):
        own = set()
        for file, text, tree in each():
            own.update(methods_of(tree))
        for file, text, tree in each():
            for node in ast.walk(tree):
                if isinstance(node, ast.Call) and isinstance(node.func, ast.Attribute):
                    self.assertIn(node.func.attr, sorted(own) + METHODS, file)


if __name__ == "__main__":
    unittest.main()

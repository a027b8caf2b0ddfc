"""The form of the package's own files: names, sizes, imports, and the part of Python they keep to."""

import ast
import builtins
import pathlib
import re
import unittest

ROOT = pathlib.Path(__file__).resolve().parent.parent
PACKAGE = ROOT / "policywatch"

KINDS = (
    "Module Expr Constant FunctionDef arguments arg ClassDef Assign If While For Return Break Continue Pass "
    "Raise Try ExceptHandler Import ImportFrom alias Name Load Store Attribute Subscript Slice Call keyword "
    "List Tuple Dict ListComp comprehension BinOp UnaryOp BoolOp Compare IfExp Lambda JoinedStr FormattedValue "
    "AugAssign Add Sub Mult FloorDiv Mod Pow BitOr BitAnd BitXor LShift RShift Invert USub Not And Or "
    "Eq NotEq Lt LtE Gt GtE In NotIn Is IsNot").split()

OWN_NAMES = (
    "len range enumerate zip min max sum abs sorted reversed int str bool list tuple dict set frozenset "
    "isinstance ord repr any all divmod Exception ValueError TypeError KeyError IndexError LookupError "
    "ZeroDivisionError ArithmeticError OverflowError RuntimeError NotImplementedError StopIteration").split()

METHODS = (
    "append clear copy count endswith extend find get index insert isalnum isalpha isdigit islower isspace "
    "isupper items join keys ljust lower lstrip partition pop remove replace reverse rfind rjust rpartition "
    "rsplit rstrip setdefault split splitlines startswith strip update upper values zfill bit_length").split()

WORDS = (
    r"\b(type|typing|typing_extensions|enum|Enum|IntEnum|StrEnum|Flag|IntFlag|Generic|Protocol|ABC|ABCMeta"
    r"|namedtuple|NamedTuple|TypedDict|TYPE_CHECKING|abstractmethod)\b|dataclass|overload|contextmanager")

UNUSED_NAMES = (
    "register mro elements open input version_info with_traceback add_note attrgetter breakpoint builtins "
    "compile copyright credits delattr dir eval exec exit gc getattr globals hasattr help id importlib license "
    "locals methodcaller os quit setattr super type vars sys").split()


def files():
    return sorted(PACKAGE.glob("**/*.py"))


def nodes():
    """Every part of every file, with the file's name."""
    for path in files():
        for node in ast.walk(ast.parse(path.read_text())):
            yield path.name, node


def names_bound(node):
    """The names that a part of the program gives a meaning to."""
    if isinstance(node, (ast.FunctionDef, ast.ClassDef)):
        return [node.name]
    if isinstance(node, ast.arg):
        return [node.arg]
    if isinstance(node, ast.Name) and isinstance(node.ctx, ast.Store):
        return [node.id]
    return []


class Files(unittest.TestCase):
    def test_one_folder_of_plain_files(self):
        found = [path for path in PACKAGE.iterdir() if path.name != "__pycache__"]
        self.assertEqual(sorted(found), files())
        for path in files():
            self.assertRegex(path.name, r"^(__init__|[a-z][a-z0-9_]*)\.py$")
            self.assertNotIn(path.stem, dir(builtins))
            self.assertNotRegex(path.stem, r"^(test.*|site|conftest|sitecustomize|usercustomize)$")

    def test_signs_and_sizes(self):
        for path in files():
            text = path.read_bytes().decode("ascii")
            self.assertRegex(text, r"\A[ -~\n]*\Z", path.name)
            rows = text.splitlines()
            self.assertLess(len(rows), 400, path.name)
            self.assertLessEqual(max(len(row) for row in rows), 120, path.name)
            self.assertIsNone(re.search(WORDS, text), path.name)

    def test_functions_of_forty_lines(self):
        for name, node in nodes():
            if isinstance(node, ast.FunctionDef):
                self.assertLessEqual(node.end_lineno - node.lineno + 1, 40, (name, node.name))
                self.assertEqual((node.decorator_list, node.args.vararg, node.args.kwarg, node.args.kwonlyargs),
                                 ([], None, None, []), (name, node.name))

    def test_the_interface_stands_in_its_file(self):
        for path in files():
            tops = [node.name for node in ast.parse(path.read_text()).body if isinstance(node, ast.FunctionDef)]
            self.assertEqual("answers" in tops, path.name == "monitor.py", path.name)


class Language(unittest.TestCase):
    def test_only_parts_of_the_small_language(self):
        for name, node in nodes():
            self.assertIn(node.__class__.__name__, KINDS, (name, getattr(node, "lineno", 0)))
            if isinstance(node, ast.Assign):
                self.assertEqual(len(node.targets), 1, (name, node.lineno))
            if isinstance(node, (ast.For, ast.While)):
                self.assertEqual(node.orelse, [], (name, node.lineno))
            if isinstance(node, ast.Constant) and not isinstance(node.value, str):
                self.assertIn(node.value.__class__, (int, bool, None.__class__), (name, node.lineno))

    def test_names(self):
        for name, node in nodes():
            for bound in names_bound(node):
                if bound != "__init__":
                    self.assertRegex(bound, r"^[A-Za-z][A-Za-z0-9_]*$", name)
                    self.assertNotIn(bound, dir(builtins), name)
                    self.assertNotIn(bound, UNUSED_NAMES, name)
            if isinstance(node, ast.Name) and node.id in dir(builtins):
                self.assertIn(node.id, OWN_NAMES, (name, node.lineno))

    def test_methods(self):
        for name, node in nodes():
            if isinstance(node, ast.Call) and isinstance(node.func, ast.Attribute):
                self.assertIn(node.func.attr, METHODS + ["__init__"], (name, node.lineno))

    def test_values_of_objects_are_not_called_like_pythons_own(self):
        taken = set(dir(str) + dir(int) + dir(list) + dir(dict) + dir(set) + dir(bytes) + dir(tuple))
        for name, node in nodes():
            if isinstance(node, ast.Attribute) and isinstance(node.ctx, ast.Store):
                self.assertNotIn(node.attr, taken, (name, node.lineno))
                self.assertIsInstance(node.value, ast.Name, (name, node.lineno))

    def test_no_name_of_a_file_serves_twice(self):
        for path in files():
            tree = ast.parse(path.read_text())
            tops = [bound for node in tree.body for bound in names_bound(node)]
            for node in tree.body:
                if isinstance(node, ast.Assign):
                    tops.append(node.targets[0].id)
            drawn = [alias.name for node in tree.body if isinstance(node, ast.ImportFrom) for alias in node.names]
            self.assertEqual(sorted(tops + drawn), sorted(set(tops + drawn)), path.name)
            classes = [node.name for node in ast.walk(tree) if isinstance(node, ast.ClassDef)]
            for node in ast.walk(tree):
                if isinstance(node, (ast.arg, ast.Name)):
                    for bound in names_bound(node):
                        self.assertNotIn(bound, drawn + classes, path.name)

    def test_imports(self):
        drawn = {}
        for path in files():
            tree = ast.parse(path.read_text())
            for node in ast.walk(tree):
                self.assertNotIsInstance(node, ast.Import, path.name)
                if isinstance(node, ast.ImportFrom):
                    self.assertIn(node, tree.body, path.name)
                    source = re.fullmatch(r"policywatch\.([a-z_]+)", node.module).group(1)
                    drawn.setdefault(path.stem, []).append(source)
                    self.check_defined(source, [alias.name for alias in node.names])
        for stem in drawn:
            self.assertNotIn(stem, self.reached(drawn, stem), "files draw from one another")

    def check_defined(self, source, names):
        tree = ast.parse((PACKAGE / f"{source}.py").read_text())
        tops = [bound for node in tree.body for bound in names_bound(node)]
        tops += [node.targets[0].id for node in tree.body if isinstance(node, ast.Assign)]
        for name in names:
            self.assertIn(name, tops, source)

    def reached(self, drawn, stem):
        found = list(drawn.get(stem, []))
        for source in found:
            found.extend([other for other in drawn.get(source, []) if other not in found])
        return found


if __name__ == "__main__":
    unittest.main()

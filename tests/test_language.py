"""Whether the package keeps to the rules of LANGUAGE.md that can be told file by file."""

import ast
import builtins
import re
import unittest
from pathlib import Path

PACKAGE = Path(__file__).resolve().parent.parent / "pickboard"
FILES = sorted(PACKAGE.glob("*.py"))

ALLOWED_NODES = set("""
Module FunctionDef arguments arg ClassDef Return Assign AugAssign AnnAssign Delete For While If Raise Try Assert
ExceptHandler Import ImportFrom alias Expr Pass Break Continue BoolOp And Or BinOp Add Sub Mult FloorDiv Mod Pow
LShift RShift BitOr BitXor BitAnd UnaryOp Invert Not UAdd USub Lambda IfExp Dict Set ListComp SetComp DictComp
comprehension Compare Eq NotEq Lt LtE Gt GtE Is IsNot In NotIn Call keyword JoinedStr FormattedValue Constant
Attribute Subscript Starred Name Load Store Del List Tuple Slice
""".split())

ALLOWED_BUILTINS = set("""
len range enumerate zip min max sum abs sorted reversed int str bool bytes list tuple dict set frozenset isinstance
ord repr any all divmod Exception ValueError TypeError KeyError IndexError LookupError ZeroDivisionError
ArithmeticError OverflowError RuntimeError NotImplementedError AttributeError StopIteration
""".split())

ALLOWED_METHODS = set("""
append clear copy count endswith extend find get index insert isalnum isalpha isdigit islower isspace isupper items
join keys ljust lower lstrip partition pop remove replace reverse rfind rjust rpartition rsplit rstrip setdefault
split splitlines startswith strip update upper values zfill bit_length sort add discard __init__
""".split())

WORDS_OUT = set("""
type typing typing_extensions enum Enum IntEnum StrEnum Flag IntFlag Generic Protocol ABC ABCMeta namedtuple
NamedTuple TypedDict TYPE_CHECKING abstractmethod
""".split())

NAMES_OUT = set("""
register mro elements open input version_info with_traceback add_note attrgetter breakpoint builtins compile
copyright credits delattr dir eval exec exit gc getattr globals hasattr help id importlib license locals
methodcaller os quit setattr super vars sys __name__ format format_map print
""".split())


def names_bound(tree):
    """Every name that a file binds: defs, classes, parameters, imports, what is given."""
    names = []
    for node in ast.walk(tree):
        if isinstance(node, (ast.FunctionDef, ast.ClassDef)):
            names.append(node.name)
        elif isinstance(node, ast.arg):
            names.append(node.arg)
        elif isinstance(node, ast.alias):
            names.append(node.asname or node.name)
        elif isinstance(node, ast.Name) and not isinstance(node.ctx, ast.Load):
            names.append(node.id)
    return names


def called(node):
    """The name of what is called, the empty text of what is no call."""
    if not isinstance(node, ast.Call):
        return ""
    return node.func.id if isinstance(node.func, ast.Name) else getattr(node.func, "attr", "")


class LanguageTest(unittest.TestCase):
    def walk(self):
        for path in FILES:
            for node in ast.walk(ast.parse(path.read_text())):
                yield f"{path.name}:{getattr(node, 'lineno', '')}", node

    def test_only_plain_python_files_lie_in_the_package(self):
        self.assertIn(PACKAGE / "__init__.py", FILES)
        for path in PACKAGE.iterdir():
            if path.name != "__pycache__":
                self.assertRegex(path.name, r"\A([a-z][a-z0-9_]*|__init__|__main__)\.py\Z")

    def test_signs_and_sizes(self):
        for path in FILES:
            text = path.read_bytes().decode("ascii")
            rows = text.split("\n")
            self.assertLessEqual(len(rows), 401, path.name)
            for at, row in enumerate(rows):
                self.assertRegex(row, r"\A[ -~]{0,120}\Z", f"{path.name}:{at + 1}")

    def test_defs_are_short(self):
        for where, node in self.walk():
            if isinstance(node, ast.FunctionDef):
                self.assertLessEqual(node.end_lineno - node.lineno + 1, 40, where)

    def test_words_that_stand_nowhere(self):
        for path in FILES:
            text = path.read_text()
            self.assertEqual(set(re.findall(r"\w+", text)) & WORDS_OUT, set(), path.name)
            self.assertNotRegex(text, "dataclass|overload|contextmanager", path.name)

    def test_statements_and_expressions(self):
        for where, node in self.walk():
            self.assertIn(node.__class__.__name__, ALLOWED_NODES, where)
            if isinstance(node, ast.FunctionDef):
                self.assertEqual(node.decorator_list, [], where)
                self.assertIsNone(node.args.vararg or node.args.kwarg, where)
                self.assertEqual(node.args.posonlyargs, [], where)
            if isinstance(node, (ast.For, ast.While)):
                self.assertEqual(node.orelse, [], where)

    def test_values(self):
        for where, node in self.walk():
            if isinstance(node, ast.Constant):
                self.assertNotIsInstance(node.value, (float, complex), where)
                if isinstance(node.value, str):
                    self.assertNotIn("%", node.value, where)
            if isinstance(node, ast.Compare) and isinstance(node.ops[0], (ast.Is, ast.IsNot)):
                self.assertIn(getattr(node.comparators[0], "value", 0), [None, True, False], where)

    def test_imports_are_the_packages_own(self):
        for where, node in self.walk():
            self.assertNotIsInstance(node, ast.Import, where)
            if isinstance(node, ast.ImportFrom):
                self.assertEqual(node.level, 0, where)
                self.assertTrue((PACKAGE.parent / (node.module.replace(".", "/") + ".py")).is_file(), where)

    def test_the_top_of_a_file(self):
        for path in FILES:
            given = []
            for at, node in enumerate(ast.parse(path.read_text()).body):
                if at == 0:
                    self.assertIsInstance(node, ast.Expr, path.name)
                else:
                    self.assertIsInstance(node, (ast.ImportFrom, ast.Assign, ast.FunctionDef, ast.ClassDef))
                    given += names_bound(ast.Module([node], [])) if isinstance(node, ast.Assign) else []
            self.assertEqual(len(given), len(set(given)), path.name)

    def test_names_that_are_bound(self):
        for path in FILES:
            for name in names_bound(ast.parse(path.read_text())):
                if name != "__init__":
                    self.assertRegex(name, r"\A[A-Za-z][A-Za-z0-9_]*\Z", path.name)
                    self.assertNotIn(name, NAMES_OUT, path.name)
                    self.assertNotIn(name, dir(builtins), path.name)

    def test_names_that_are_asked(self):
        for path in FILES:
            tree = ast.parse(path.read_text())
            known = set(names_bound(tree)) | ALLOWED_BUILTINS
            asked = {node.id for node in ast.walk(tree) if isinstance(node, ast.Name)}
            self.assertEqual(asked - known, set(), path.name)

    def test_methods_and_values_of_objects(self):
        given = {node.attr for where, node in self.walk() if isinstance(node, ast.Attribute)
                 and isinstance(node.ctx, ast.Store)}
        for where, node in self.walk():
            if isinstance(node, ast.Attribute):
                self.assertIn(node.attr, ALLOWED_METHODS | given, where)

    def test_no_local_is_called_like_an_import_or_a_class(self):
        for path in FILES:
            tree = ast.parse(path.read_text())
            tops = {node.name for node in tree.body if isinstance(node, ast.ClassDef)}
            for node in tree.body:
                if isinstance(node, ast.ImportFrom):
                    tops |= {alias.asname or alias.name for alias in node.names}
            for node in ast.walk(tree):
                if isinstance(node, ast.FunctionDef):
                    self.assertEqual(set(names_bound(node)) & tops, set(), f"{path.name}:{node.lineno}")

    def test_files_do_not_draw_from_one_another(self):
        drawn = {}
        for path in FILES:
            rows = [node for node in ast.parse(path.read_text()).body if isinstance(node, ast.ImportFrom)]
            drawn[path.stem] = {node.module.split(".")[-1] for node in rows}
        while drawn:
            free = [name for name in drawn if not drawn[name] & set(drawn)]
            self.assertNotEqual(free, [], drawn)
            drawn = {name: drawn[name] for name in drawn if name not in free}

    def test_an_imported_name_is_defined_in_that_very_file_and_used(self):
        for path in FILES:
            tree = ast.parse(path.read_text())
            asked = {node.id for node in ast.walk(tree) if isinstance(node, ast.Name)}
            for node in tree.body:
                if isinstance(node, ast.ImportFrom):
                    other = ast.parse((PACKAGE / (node.module.split(".")[-1] + ".py")).read_text())
                    rows = [row for row in other.body if not isinstance(row, ast.ImportFrom)]
                    own = names_bound(ast.Module(rows, []))
                    for alias in node.names:
                        self.assertIn(alias.name, own, path.name)
                        self.assertIn(alias.name, asked, path.name)

    def calls_within(self):
        """Each call and set that is written, with what it stands in."""
        for path in FILES:
            for parent in ast.walk(ast.parse(path.read_text())):
                for child in ast.iter_child_nodes(parent):
                    if isinstance(child, (ast.Call, ast.Set, ast.SetComp)):
                        yield f"{path.name}:{child.lineno}", parent, child

    def test_walked_at_once(self):
        takers = set("list tuple dict sorted sum any all enumerate zip bytes min max".split())
        for where, parent, call in self.calls_within():
            if called(call) in set("zip enumerate reversed range items keys values".split()):
                if isinstance(parent, (ast.For, ast.comprehension)):
                    self.assertIs(parent.iter, call, where)
                elif isinstance(parent, ast.Compare):
                    self.assertIsInstance(parent.ops[0], (ast.In, ast.NotIn), where)
                else:
                    self.assertIn(called(parent), takers | {"join"}, where)

    def test_sets_are_asked_on_the_spot_or_kept_by_a_local(self):
        for where, parent, made in self.calls_within():
            self.assertNotEqual(called(made), "frozenset", where)
            if isinstance(made, (ast.Set, ast.SetComp)) or called(made) == "set":
                if isinstance(parent, ast.Call):
                    self.assertIn(called(parent), ["len", "sorted"], where)
                else:
                    self.assertIsInstance(parent, (ast.Compare, ast.Assign), where)


if __name__ == "__main__":
    unittest.main()

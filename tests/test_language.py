"""The rules of LANGUAGE.md that can be seen in the package's files one by one."""

import ast
import builtins
import pathlib
import re
import unittest

ROOT = pathlib.Path(__file__).resolve().parent.parent
PACKAGE = ROOT / "someall"
FILES = sorted(PACKAGE.rglob("*.py"))

OWN_NAMES = set("""len range enumerate zip min max sum abs sorted reversed int str bool list tuple dict set frozenset
    isinstance ord repr any all divmod Exception ValueError TypeError KeyError IndexError LookupError
    ZeroDivisionError ArithmeticError OverflowError RuntimeError NotImplementedError AttributeError
    StopIteration""".split())
OWN_METHODS = set("""append clear copy count endswith extend find get index insert isalnum isalpha isdigit islower
    isspace isupper items join keys ljust lower lstrip partition pop remove replace reverse rfind rjust rpartition
    rsplit rstrip setdefault split splitlines startswith strip update upper values zfill bit_length""".split())
UNUSED_WORDS = re.compile(r"\b(type|typing|typing_extensions|enum|Enum|IntEnum|StrEnum|Flag|IntFlag|Generic|Protocol|"
                          r"ABC|ABCMeta|namedtuple|NamedTuple|TypedDict|TYPE_CHECKING|abstractmethod)\b|"
                          r"dataclass|overload|contextmanager")
UNUSED_NAMES = set("""register mro elements open input version_info with_traceback add_note attrgetter breakpoint builtins
    compile copyright credits delattr dir eval exec exit gc getattr globals hasattr help id importlib license locals
    methodcaller os quit setattr super vars sys""".split())
STATEMENTS = (ast.Assign, ast.AugAssign, ast.If, ast.While, ast.For, ast.Return, ast.Break, ast.Continue, ast.Pass,
              ast.Raise, ast.Try, ast.Expr, ast.FunctionDef, ast.ClassDef, ast.ImportFrom)
EXPRESSIONS = (ast.Constant, ast.Name, ast.List, ast.Tuple, ast.Dict, ast.BinOp, ast.UnaryOp, ast.BoolOp, ast.Compare,
               ast.IfExp, ast.Call, ast.Attribute, ast.Subscript, ast.Slice, ast.ListComp, ast.JoinedStr,
               ast.FormattedValue, ast.Lambda)


def nodes_of(kind):
    for path in FILES:
        for node in ast.walk(ast.parse(path.read_text("utf-8"))):
            if isinstance(node, kind):
                yield f"{path.name}:{getattr(node, 'lineno', 0)}", node


class Language(unittest.TestCase):

    def test_only_files_with_plain_names(self):
        for path in PACKAGE.rglob("*"):
            if "__pycache__" not in path.parts:
                self.assertRegex(path.name, r"^([a-z][a-z0-9_]*|__init__|__main__)\.py$")
        self.assertIn(PACKAGE / "__init__.py", FILES)

    def test_signs_lines_and_words(self):
        for path in FILES:
            text = path.read_bytes().decode("ascii")
            self.assertRegex(text, r"\A[\n -~]*\Z", path.name)
            lines = text.splitlines()
            self.assertLessEqual(len(lines), 400, path.name)
            self.assertLessEqual(max(len(line) for line in lines), 120, path.name)
            self.assertIsNone(UNUSED_WORDS.search(text), path.name)

    def test_functions_are_short_and_plain(self):
        for place, node in nodes_of(ast.FunctionDef):
            self.assertLessEqual(node.end_lineno - node.lineno + 1, 40, place)
            self.assertEqual(node.decorator_list, [], place)
            self.assertFalse(node.args.vararg or node.args.kwarg or node.args.kwonlyargs or node.args.posonlyargs, place)

    def test_classes_are_plain(self):
        for place, node in nodes_of(ast.ClassDef):
            self.assertLessEqual(len(node.bases), 1, place)
            self.assertEqual(node.decorator_list + node.keywords, [], place)
            self.assertEqual({part.__class__ for part in node.body}, {ast.FunctionDef}, place)

    def test_imports_are_of_the_package(self):
        for place, node in nodes_of((ast.Import, ast.ImportFrom)):
            self.assertIsInstance(node, ast.ImportFrom, place)
            self.assertEqual(node.level, 0, place)
            self.assertTrue(node.module.startswith("someall."), place)
            self.assertTrue((ROOT / (node.module.replace(".", "/") + ".py")).is_file(), place)
            self.assertNotIn("*", [name.name for name in node.names], place)

    def test_no_two_files_draw_from_one_another(self):
        drawn = {f"someall.{path.stem}": {node.module for node in ast.parse(path.read_text("utf-8")).body
                                          if isinstance(node, ast.ImportFrom)} for path in FILES}
        while drawn:
            free = [name for name in drawn if not drawn[name] & set(drawn)]
            self.assertTrue(free, drawn)
            drawn = {name: drawn[name] for name in drawn if name not in free}

    def test_the_top_of_a_file(self):
        for path in FILES:
            bound = []
            for node in ast.parse(path.read_text("utf-8")).body:
                place = f"{path.name}:{node.lineno}"
                if isinstance(node, ast.Assign):
                    # Fails where it isn't a plain value.
                    ast.literal_eval(node.value)
                    bound.append(node.targets[0].id)
                elif isinstance(node, (ast.FunctionDef, ast.ClassDef)):
                    bound.append(node.name)
                elif isinstance(node, ast.ImportFrom):
                    bound.extend(name.asname or name.name for name in node.names)
                else:
                    self.assertIsInstance(node, ast.Expr, place)
                    self.assertIsInstance(node.value.value, str, place)
            self.assertEqual(len(bound), len(set(bound)), path.name)

    def test_no_local_is_called_like_an_import_or_a_class(self):
        for path in FILES:
            tree = ast.parse(path.read_text("utf-8"))
            taken = {name.name for node in tree.body if isinstance(node, ast.ImportFrom) for name in node.names}
            taken |= {node.name for node in tree.body if isinstance(node, ast.ClassDef)}
            for node in ast.walk(tree):
                if isinstance(node, ast.arg):
                    self.assertNotIn(node.arg, taken, path.name)
                if isinstance(node, ast.Name) and isinstance(node.ctx, ast.Store):
                    self.assertNotIn(node.id, taken, path.name)

    def test_statements_and_expressions(self):
        for place, node in nodes_of((ast.stmt, ast.expr)):
            self.assertIsInstance(node, STATEMENTS + EXPRESSIONS, place)
            if isinstance(node, ast.Assign):
                self.assertEqual(len(node.targets), 1, place)
            if isinstance(node, (ast.For, ast.While)):
                self.assertEqual(node.orelse, [], place)
            if isinstance(node, ast.Try):
                self.assertEqual(node.finalbody, [], place)
            if isinstance(node, ast.BinOp):
                self.assertNotIsInstance(node.op, (ast.Div, ast.Pow, ast.MatMult), place)
            if isinstance(node, ast.ListComp):
                self.assertEqual(len(node.generators), 1, place)
                self.assertLessEqual(len(node.generators[0].ifs), 1, place)
            if isinstance(node, ast.Constant):
                self.assertIn(node.value.__class__, (int, str, bool, None.__class__), place)
                self.assertFalse(isinstance(node.value, str) and "%" in node.value, place)

    def test_names(self):
        bound = [(place, node.id) for place, node in nodes_of(ast.Name) if isinstance(node.ctx, ast.Store)]
        bound += [(place, node.arg) for place, node in nodes_of(ast.arg)]
        bound += [(place, node.name) for place, node in nodes_of((ast.FunctionDef, ast.ClassDef))]
        for place, name in bound:
            if name != "__init__":
                self.assertFalse(hasattr(builtins, name), (place, name))
                self.assertRegex(name, r"^[A-Za-z][A-Za-z0-9_]*$", place)
        for place, node in nodes_of(ast.Name):
            self.assertTrue(node.id in OWN_NAMES or not hasattr(builtins, node.id), (place, node.id))
            self.assertNotIn(node.id, UNUSED_NAMES, place)

    def test_methods(self):
        own = {part.name for place, node in nodes_of(ast.ClassDef) for part in node.body}
        for place, node in nodes_of(ast.Call):
            if isinstance(node.func, ast.Attribute):
                self.assertIn(node.func.attr, OWN_METHODS | own, place)

    def test_no_name_is_a_method_and_a_value(self):
        own = {part.name for place, node in nodes_of(ast.ClassDef) for part in node.body}
        for place, node in nodes_of(ast.Attribute):
            if isinstance(node.ctx, ast.Store):
                self.assertNotIn(node.attr, own, place)
                for value in ("", 0, [], {}, b""):
                    self.assertFalse(hasattr(value, node.attr), place)


if __name__ == "__main__":
    unittest.main()

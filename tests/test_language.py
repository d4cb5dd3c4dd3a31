"""The package keeps to the small part of Python that it is written in: what of those rules can be seen from a file."""

import ast
import builtins
import pathlib
import re
import unittest

PACKAGE = pathlib.Path(__file__).resolve().parent.parent / "boxturns"

STATEMENTS = (ast.FunctionDef, ast.ClassDef, ast.ImportFrom, ast.Assign, ast.AugAssign, ast.If, ast.While, ast.For,
              ast.Return, ast.Break, ast.Continue, ast.Pass, ast.Raise, ast.Try, ast.Expr)
EXPRESSIONS = (ast.Constant, ast.Name, ast.List, ast.Tuple, ast.Dict, ast.BinOp, ast.UnaryOp, ast.BoolOp, ast.Compare,
               ast.IfExp, ast.Call, ast.Attribute, ast.Subscript, ast.Slice, ast.ListComp, ast.Lambda)
NAMES = ("len range enumerate zip min max sum abs sorted reversed int str bool list tuple dict set frozenset isinstance "
         "ord repr any all divmod Exception ValueError TypeError KeyError IndexError LookupError ZeroDivisionError "
         "ArithmeticError OverflowError RuntimeError NotImplementedError StopIteration").split()
METHODS = ("append clear copy count endswith extend find get index insert isalnum isalpha isdigit islower isspace "
           "isupper items join keys ljust lower lstrip partition pop remove replace reverse rfind rjust rpartition "
           "rsplit rstrip setdefault split splitlines startswith strip update upper values zfill bit_length").split()
NO_VALUES = ("items keys values pop update append clear extend insert remove reverse setdefault sort args encode "
             "format").split()
NOT_USED = ("register mro elements open input version_info with_traceback add_note attrgetter breakpoint builtins "
            "compile copyright credits delattr dir eval exec exit gc getattr globals hasattr help id importlib license "
            "locals methodcaller os quit setattr super vars sys").split()
NO_WORDS = re.compile(r"\b(type|typing|typing_extensions|enum|Enum|IntEnum|StrEnum|Flag|IntFlag|Generic|Protocol|ABC|"
                      r"ABCMeta|namedtuple|NamedTuple|TypedDict|TYPE_CHECKING|abstractmethod)\b|dataclass|overload|"
                      r"contextmanager")
OWN_OF_PYTHON = [name for kind in (str, int, list, dict, set, bytes, tuple) for name in dir(kind)]


def files():
    return sorted(PACKAGE.glob("*.py"))


def trees():
    return [(path.name, ast.parse(path.read_text())) for path in files()]


def nodes(*kinds):
    return [(name, node) for name, tree in trees() for node in ast.walk(tree) if isinstance(node, kinds)]


def own_methods():
    return {part.name for name, node in nodes(ast.ClassDef) for part in node.body if isinstance(part, ast.FunctionDef)}


def stored_values():
    return {node.attr for name, node in nodes(ast.Attribute) if isinstance(node.ctx, ast.Store)}


def drawn_from(tree):
    return [node.module for node in ast.walk(tree) if isinstance(node, ast.ImportFrom)]


class Files(unittest.TestCase):
    def test_nothing_else_lies_there(self):
        for path in PACKAGE.iterdir():
            self.assertTrue(path.name == "__pycache__" or re.fullmatch(r"[a-z0-9_]+\.py", path.name), path)
        for path in files():
            self.assertNotIn(path.stem, dir(builtins))

    def test_sizes_and_signs(self):
        for path in files():
            rows = path.read_text().split("\n")
            self.assertLessEqual(len(rows), 400)
            for row in rows:
                self.assertRegex(row, r"\A[ -~]{0,120}\Z")

    def test_words_that_stand_nowhere(self):
        for path in files():
            self.assertIsNone(NO_WORDS.search(path.read_text()), path.name)

    def test_functions_are_small_and_plain(self):
        for name, node in nodes(ast.FunctionDef):
            self.assertLessEqual(node.end_lineno - node.lineno + 1, 40, (name, node.name))
            self.assertEqual((node.decorator_list, node.args.vararg, node.args.kwarg, node.args.kwonlyargs),
                             ([], None, None, []))


class Imports(unittest.TestCase):
    def test_from_the_file_that_defines_the_name(self):
        bound = {}
        for name, tree in trees():
            tops = [node.name for node in tree.body if isinstance(node, (ast.FunctionDef, ast.ClassDef))]
            tops += [node.targets[0].id for node in tree.body if isinstance(node, ast.Assign)]
            self.assertEqual(len(tops), len(set(tops)), name)
            bound["boxturns." + name[:-3]] = tops
        for name, node in nodes(ast.Import, ast.ImportFrom):
            self.assertIsInstance(node, ast.ImportFrom)
            self.assertEqual(node.level, 0)
            for alias in node.names:
                self.assertIn(alias.name, bound[node.module])
                self.assertIsNone(alias.asname)

    def test_no_two_draw_from_one_another(self):
        left = {"boxturns." + name[:-3]: drawn_from(tree) for name, tree in trees()}
        while left:
            free = [name for name in left if not any(other in left for other in left[name])]
            self.assertNotEqual(free, [], left)
            left = {name: left[name] for name in left if name not in free}


class Forms(unittest.TestCase):
    def test_statements(self):
        for name, node in nodes(ast.stmt):
            self.assertIsInstance(node, STATEMENTS, (name, node.lineno))
            if isinstance(node, (ast.For, ast.While)):
                self.assertEqual(node.orelse, [])
            if isinstance(node, ast.Assign):
                self.assertEqual(len(node.targets), 1)
                self.assertNotIsInstance(node.targets[0], (ast.Tuple, ast.List))
            if isinstance(node, ast.Try):
                self.assertEqual(node.finalbody, [])
                self.assertNotIn(None, [handler.type for handler in node.handlers])

    def test_expressions(self):
        for name, node in nodes(ast.expr):
            self.assertIsInstance(node, EXPRESSIONS, (name, node.lineno))
            if isinstance(node, ast.Constant):
                self.assertIn(type(node.value), (int, str, bool, type(None)))
        for name, node in nodes(ast.Div, ast.MatMult):
            self.fail((name, node))

    def test_is_stands_beside_plain_words_alone(self):
        for name, node in nodes(ast.Compare):
            for sign, right in zip(node.ops, node.comparators):
                if isinstance(sign, (ast.Is, ast.IsNot)):
                    self.assertIn(getattr(right, "value", 0), (None, True, False), (name, node.lineno))

    def test_what_stands_by_itself_is_a_call(self):
        for name, tree in trees():
            self.assertIsInstance(tree.body[0].value, ast.Constant, name)
            for node in ast.walk(tree):
                if isinstance(node, ast.Expr) and node is not tree.body[0]:
                    self.assertIsInstance(node.value, ast.Call, (name, node.lineno))


class Names(unittest.TestCase):
    def test_pythons_own(self):
        for name, node in nodes(ast.Name):
            if hasattr(builtins, node.id):
                self.assertIn(node.id, NAMES, (name, node.lineno))
                self.assertIsInstance(node.ctx, ast.Load)
        for name, node in nodes(ast.arg):
            self.assertFalse(hasattr(builtins, node.arg), (name, node.arg))

    def test_plain(self):
        used = [node.id for name, node in nodes(ast.Name)] + [node.arg for name, node in nodes(ast.arg)]
        used += [node.name for name, node in nodes(ast.FunctionDef, ast.ClassDef)]
        used += [node.attr for name, node in nodes(ast.Attribute)]
        for word in used:
            self.assertTrue(word == "__init__" or not word.startswith("_"), word)
            self.assertNotIn(word, NOT_USED)

    def test_locals_are_not_called_like_imports_and_classes(self):
        for name, tree in trees():
            drawn = [alias.name for node in tree.body if isinstance(node, ast.ImportFrom) for alias in node.names]
            drawn += [node.name for node in tree.body if isinstance(node, ast.ClassDef)]
            for node in ast.walk(tree):
                if isinstance(node, ast.arg):
                    self.assertNotIn(node.arg, drawn, name)
                if isinstance(node, ast.Name) and isinstance(node.ctx, ast.Store):
                    self.assertNotIn(node.id, drawn, name)

    def test_methods(self):
        for name, node in nodes(ast.Call):
            if isinstance(node.func, ast.Attribute):
                self.assertIn(node.func.attr, set(METHODS) | own_methods(), (name, node.lineno))

    def test_own_methods_and_values(self):
        self.assertEqual(own_methods() & stored_values(), set())
        for word in own_methods() - {"__init__"}:
            self.assertIn(word, [word] if word not in OWN_OF_PYTHON else METHODS + ["add", "discard"])
        for word in stored_values():
            self.assertNotIn(word, NO_VALUES)
            self.assertNotIn(word, OWN_OF_PYTHON)


if __name__ == "__main__":
    unittest.main()

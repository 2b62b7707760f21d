"""The rules of LANGUAGE.md that a walk over the package's files can see."""

import ast
import builtins
import pathlib
import re
import unittest

PACKAGE = pathlib.Path(__file__).resolve().parent.parent / "dayplansdesk"
FILES = sorted(PACKAGE.glob("*.py"))

OWN_NAMES = set("""len range enumerate zip min max sum abs sorted reversed int str bool list tuple dict set frozenset
    isinstance ord repr any all divmod Exception ValueError TypeError KeyError IndexError LookupError ZeroDivisionError
    ArithmeticError OverflowError RuntimeError NotImplementedError AttributeError StopIteration""".split())
LEFT_OUT = (ast.With, ast.Match, ast.Delete, ast.Global, ast.Nonlocal, ast.Assert, ast.Yield, ast.YieldFrom,
            ast.AsyncFunctionDef, ast.AsyncFor, ast.AsyncWith, ast.Await, ast.SetComp, ast.DictComp, ast.GeneratorExp,
            ast.NamedExpr, ast.Starred, ast.Div, ast.Import, ast.AnnAssign)
OWN_METHODS = set("""append clear copy count endswith extend find get index insert isalnum isalpha isdigit islower
    isspace isupper items join keys ljust lower lstrip partition pop remove replace reverse rfind rjust rpartition
    rsplit rstrip setdefault split splitlines startswith strip update upper values zfill bit_length""".split())
WORDS = re.compile(r"\b(type|typing|typing_extensions|enum|Enum|IntEnum|StrEnum|Flag|IntFlag|Generic|Protocol|ABC"
                   r"|ABCMeta|namedtuple|NamedTuple|TypedDict|TYPE_CHECKING|abstractmethod)\b"
                   r"|dataclass|overload|contextmanager")


def nodes(path):
    return list(ast.walk(ast.parse(path.read_text(encoding="utf-8"))))


def bound_names(found):
    names = [node.id for node in found if isinstance(node, ast.Name) and isinstance(node.ctx, ast.Store)]
    names += [node.arg for node in found if isinstance(node, ast.arg)]
    return names + [node.name for node in found if isinstance(node, (ast.FunctionDef, ast.ClassDef))]


def methods(found):
    classes = [node for node in found if isinstance(node, ast.ClassDef)]
    return {part.name for node in classes for part in node.body if isinstance(part, ast.FunctionDef)}


def given_values(found):
    return {node.attr for node in found if isinstance(node, ast.Attribute) and isinstance(node.ctx, ast.Store)}


def imports(found):
    return [node for node in found if isinstance(node, ast.ImportFrom)]


class Language(unittest.TestCase):
    def test_the_package_holds_plain_files_alone(self):
        there = sorted(path.name for path in PACKAGE.iterdir() if path.name != "__pycache__")
        self.assertEqual(there, [path.name for path in FILES])
        self.assertIn("__init__.py", there)

    def test_signs_words_and_sizes(self):
        for path in FILES:
            text = path.read_text(encoding="utf-8")
            self.assertIsNone(re.search(r"[^ -~\n]", text), path.name)
            self.assertIsNone(WORDS.search(text), path.name)
            rows = text.split("\n")
            self.assertLessEqual(len(rows), 400, path.name)
            self.assertLessEqual(max(len(row) for row in rows), 120, path.name)

    def test_functions_are_short_and_plain(self):
        for path in FILES:
            for node in nodes(path):
                if isinstance(node, ast.FunctionDef):
                    self.assertLessEqual(node.end_lineno - node.lineno + 1, 40, node.name)
                    self.assertEqual(node.decorator_list, [], node.name)
                    plain = node.args
                    self.assertFalse(plain.vararg or plain.kwarg or plain.kwonlyargs or plain.posonlyargs, node.name)

    def test_what_is_left_out_of_the_language(self):
        for path in FILES:
            for node in nodes(path):
                self.assertNotIsInstance(node, LEFT_OUT, path.name)
                if isinstance(node, ast.Constant):
                    self.assertIn(type(node.value), (int, str, bool, type(None)), path.name)

    def test_names(self):
        for path in FILES:
            found = nodes(path)
            for name in bound_names(found):
                if name == "__init__":
                    continue
                self.assertFalse(name.startswith("_"), name)
                self.assertFalse(hasattr(builtins, name), name)
            read = {node.id for node in found if isinstance(node, ast.Name)}
            self.assertEqual([name for name in read if hasattr(builtins, name) and name not in OWN_NAMES], [])

    def test_no_name_is_a_method_and_a_value(self):
        found = [node for path in FILES for node in nodes(path)]
        self.assertEqual(methods(found) & given_values(found), set())

    def test_only_methods_that_are_let_are_called(self):
        found = [node for path in FILES for node in nodes(path)]
        callees = [node.func for node in found if isinstance(node, ast.Call)]
        called = {callee.attr for callee in callees if isinstance(callee, ast.Attribute)}
        self.assertEqual(called - OWN_METHODS - methods(found), set())

    def test_no_local_is_called_like_an_import_or_a_class(self):
        for path in FILES:
            found = nodes(path)
            taken = {name.name for node in imports(found) for name in node.names}
            self.assertEqual(taken & set(bound_names(found)), set(), path.name)
            classes = {node.name for node in found if isinstance(node, ast.ClassDef)}
            locals_bound = [node.id for node in found if isinstance(node, ast.Name) and isinstance(node.ctx, ast.Store)]
            locals_bound += [node.arg for node in found if isinstance(node, ast.arg)]
            self.assertEqual(classes & set(locals_bound), set(), path.name)

    def test_names_are_drawn_from_the_file_that_defines_them(self):
        for path in FILES:
            for node in imports(nodes(path)):
                source = PACKAGE / (node.module.split(".")[1] + ".py")
                self.assertEqual([name.name for name in node.names if name.name not in bound_names(nodes(source))], [])

    def test_no_two_files_draw_from_one_another(self):
        draws = {path.stem: {node.module.split(".")[1] for node in imports(nodes(path))} for path in FILES}
        while draws:
            free = [name for name in draws if not draws[name] & set(draws)]
            self.assertTrue(free, draws)
            for name in free:
                draws.pop(name)

    def test_imports_are_of_the_package_by_full_names(self):
        for path in FILES:
            for node in nodes(path):
                if isinstance(node, ast.ImportFrom):
                    self.assertEqual(node.level, 0, path.name)
                    self.assertTrue(node.module.startswith("dayplansdesk."), path.name)


if __name__ == "__main__":
    unittest.main()

"""The package keeps to ../shared/LANGUAGE.md, as far as a walk over its files can tell.

It is asked here what the rules let stand; a rule that needs the meaning of the code is for a reader.
"""

import ast
import builtins
import pathlib
import re
import unittest

ROOT = pathlib.Path(__file__).resolve().parent.parent
PACKAGE = ROOT / "saykept"

STATEMENTS = (ast.Assign, ast.AugAssign, ast.If, ast.While, ast.For, ast.Return, ast.Break, ast.Continue, ast.Pass,
              ast.Raise, ast.Try, ast.ExceptHandler, ast.Expr, ast.FunctionDef, ast.ClassDef, ast.ImportFrom)
EXPRESSIONS = (ast.BinOp, ast.BoolOp, ast.UnaryOp, ast.Compare, ast.IfExp, ast.Call, ast.Attribute, ast.Subscript,
               ast.Slice, ast.Name, ast.Constant, ast.List, ast.Tuple, ast.Dict, ast.ListComp, ast.comprehension,
               ast.JoinedStr, ast.FormattedValue, ast.Lambda, ast.arguments, ast.arg, ast.keyword, ast.alias)
OTHERS = (ast.Module, ast.expr_context, ast.boolop, ast.unaryop, ast.cmpop, ast.operator)
OUT = (ast.Div, ast.MatMult)

BUILTINS = """len range enumerate zip min max sum abs sorted reversed int str bool list tuple dict set frozenset
isinstance ord repr any all divmod Exception ValueError TypeError KeyError IndexError LookupError ZeroDivisionError
ArithmeticError OverflowError RuntimeError NotImplementedError AttributeError StopIteration""".split()
METHODS = """append clear copy count endswith extend find get index insert isalnum isalpha isdigit islower isspace
isupper items join keys ljust lower lstrip partition pop remove replace reverse rfind rjust rpartition rsplit rstrip
setdefault split splitlines startswith strip update upper values zfill bit_length""".split()
WORDS = """type typing typing_extensions enum Enum IntEnum StrEnum Flag IntFlag Generic Protocol ABC ABCMeta namedtuple
NamedTuple TypedDict TYPE_CHECKING abstractmethod""".split()
PARTS = ("dataclass", "overload", "contextmanager")
NOT_NAMES = """register mro elements open input version_info with_traceback add_note attrgetter breakpoint builtins
compile copyright credits delattr dir eval exec exit gc getattr globals hasattr help id importlib license locals
methodcaller os quit setattr super type vars sys""".split()


def files():
    return sorted(PACKAGE.glob("*.py"))


def trees():
    return [(path, ast.parse(path.read_text("utf-8"))) for path in files()]


def nodes():
    return [(path, node) for path, tree in trees() for node in ast.walk(tree)]


def own_methods():
    return {part.name for path, node in nodes() if isinstance(node, ast.ClassDef)
            for part in node.body if isinstance(part, ast.FunctionDef)}


def stored_values():
    return {node.attr for path, node in nodes() if isinstance(node, ast.Attribute) and isinstance(node.ctx, ast.Store)}


def bound_names(node):
    if isinstance(node, (ast.FunctionDef, ast.ClassDef)):
        return [node.name]
    if isinstance(node, ast.arg):
        return [node.arg]
    if isinstance(node, ast.Name) and isinstance(node.ctx, ast.Store):
        return [node.id]
    return []


def names_at_top(tree):
    names = []
    for part in tree.body:
        if isinstance(part, ast.ImportFrom):
            names += [alias.asname or alias.name for alias in part.names]
        elif isinstance(part, (ast.FunctionDef, ast.ClassDef)):
            names.append(part.name)
        elif isinstance(part, ast.Assign):
            names.append(part.targets[0].id)
    return names


class FilesTest(unittest.TestCase):
    def test_files_of_the_package(self):
        inside = [path.name for path in PACKAGE.iterdir() if path.name != "__pycache__"]
        self.assertIn("__init__.py", inside)
        for name in inside:
            self.assertRegex(name, r"^([a-z][a-z0-9_]*|__init__|__main__)\.py$")
            self.assertNotIn(name[:-3], dir(builtins))
            self.assertFalse(name.startswith("test"), name)

    def test_signs_and_sizes(self):
        for path in files():
            rows = path.read_text("utf-8").split("\n")
            self.assertLessEqual(len(rows), 400, path)
            for row in rows:
                self.assertRegex(row, r"^[ -~]{0,120}$", path)

    def test_words_that_stand_nowhere(self):
        for path in files():
            content = path.read_text("utf-8")
            words = re.findall(r"[A-Za-z0-9_]+", content)
            self.assertEqual(sorted(set(words) & set(WORDS)), [], path)
            self.assertEqual([part for part in PARTS if part in content], [], path)

    def test_functions_of_at_most_40_lines(self):
        for path, node in nodes():
            if isinstance(node, ast.FunctionDef):
                self.assertLessEqual(node.end_lineno - node.lineno + 1, 40, (path, node.name))


class TopTest(unittest.TestCase):
    def test_only_the_packages_own_names_are_imported(self):
        defined = {f"saykept.{path.stem}": tree for path, tree in trees()}
        for path, node in nodes():
            if isinstance(node, ast.ImportFrom):
                self.assertEqual(node.level, 0)
                own = [part for part in defined[node.module].body if not isinstance(part, ast.ImportFrom)]
                names = names_at_top(ast.Module(own, []))
                self.assertEqual([alias.name for alias in node.names if alias.name not in names], [], path)

    def test_no_two_files_draw_from_one_another(self):
        draws = {path.stem: [part.module.split(".")[1] for part in tree.body if isinstance(part, ast.ImportFrom)]
                 for path, tree in trees()}
        while draws:
            free = [name for name in draws if not any(other in draws for other in draws[name])]
            self.assertTrue(free, draws)
            for name in free:
                draws.pop(name)

    def test_what_stands_at_a_files_top(self):
        for path, tree in trees():
            self.assertIsInstance(ast.get_docstring(tree), str)
            for part in tree.body[1:]:
                self.assertIsInstance(part, (ast.ImportFrom, ast.FunctionDef, ast.ClassDef, ast.Assign), path)
                if isinstance(part, ast.Assign):
                    plain = (ast.Constant, ast.Tuple, ast.Dict, ast.List, ast.Name, ast.Load)
                    self.assertTrue(all(isinstance(some, plain) for some in ast.walk(part.value)), path)

    def test_each_name_once(self):
        for path, tree in trees():
            names = names_at_top(tree)
            self.assertEqual(len(names), len(set(names)), path)

    def test_the_interface_stands_in_its_file(self):
        holders = [path.name for path, tree in trees() for part in tree.body
                   if isinstance(part, (ast.FunctionDef, ast.ClassDef)) and part.name == "answers"]
        self.assertEqual(holders, ["desk.py"])


class CodeTest(unittest.TestCase):
    def test_statements_and_expressions(self):
        for path, node in nodes():
            self.assertIsInstance(node, STATEMENTS + EXPRESSIONS + OTHERS, path)
            self.assertNotIsInstance(node, OUT, path)

    def test_forms(self):
        for path, node in nodes():
            if isinstance(node, ast.Assign):
                self.assertEqual(len(node.targets), 1, path)
            if isinstance(node, (ast.For, ast.While)):
                self.assertEqual(node.orelse, [], path)
            if isinstance(node, ast.ListComp):
                self.assertEqual((len(node.generators), len(node.generators[0].ifs) < 2), (1, True), path)
            if isinstance(node, ast.Constant):
                self.assertIsInstance(node.value, (int, str, bool, type(None)), path)
                self.assertNotIn("%", str(node.value), path)
            if isinstance(node, ast.Compare) and isinstance(node.ops[0], (ast.Is, ast.IsNot)):
                self.assertIn(getattr(node.comparators[0], "value", 0), (None, True, False), path)

    def test_functions_and_classes(self):
        for path, node in nodes():
            if isinstance(node, (ast.FunctionDef, ast.ClassDef)):
                self.assertEqual(node.decorator_list, [], path)
            if isinstance(node, ast.arguments):
                unusual = [node.vararg, node.kwarg, node.kwonlyargs, node.posonlyargs]
                self.assertEqual(unusual, [None, None, [], []], path)
            if isinstance(node, ast.ClassDef):
                for part in node.body[1:] if ast.get_docstring(node) else node.body:
                    self.assertIsInstance(part, ast.FunctionDef, path)

    def test_pythons_own_names(self):
        for path, node in nodes():
            if isinstance(node, ast.Name) and node.id in dir(builtins):
                self.assertIn(node.id, BUILTINS, path)
            for name in bound_names(node):
                self.assertRegex(name, r"^([A-Za-z][A-Za-z0-9_]*|__init__)$", path)
                self.assertNotIn(name, dir(builtins), path)
                self.assertNotIn(name, NOT_NAMES, path)

    def test_no_local_is_called_like_a_class_or_an_import(self):
        for path, tree in trees():
            taken = {name for part in tree.body if isinstance(part, (ast.ImportFrom, ast.ClassDef))
                     for name in names_at_top(ast.Module([part], []))}
            for part in tree.body:
                for node in ast.walk(part):
                    if isinstance(node, (ast.arg, ast.Name)):
                        self.assertEqual([name for name in bound_names(node) if name in taken], [], path)

    def test_methods_and_values(self):
        methods, values = own_methods(), stored_values()
        foreign = {name for kind in (str, int, list, dict, set, bytes, tuple) for name in dir(kind)} - {"__init__"}
        self.assertEqual(methods & values, set())
        self.assertEqual((methods | values) & foreign, set())
        for path, node in nodes():
            if isinstance(node, ast.Attribute):
                self.assertIn(node.attr, methods | values | set(METHODS), path)

    def test_lists_of_a_files_top_are_only_read(self):
        for path, tree in trees():
            names = [name for name in names_at_top(tree) if name.isupper()]
            held = {part.targets[0].id for part in tree.body
                    if isinstance(part, ast.Assign) and not isinstance(part.value, ast.Constant)}
            self.assertTrue(held <= set(names), path)
            for node in ast.walk(tree):
                if isinstance(node, ast.Call):
                    given = [some.id for some in node.args if isinstance(some, ast.Name)]
                    self.assertEqual([name for name in given if name in held], [], path)
                if isinstance(node, ast.Attribute) and isinstance(node.value, ast.Name):
                    self.assertNotIn(node.value.id, held, path)


if __name__ == "__main__":
    unittest.main()

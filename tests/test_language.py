"""The package's files keep to the part of Python that LANGUAGE.md allows, as far as a test can see it."""

import ast
import builtins
import os
import re
import unittest

ROOT = os.path.dirname(os.path.dirname(os.path.abspath(__file__)))
FOLDER = os.path.join(ROOT, "interlace")

STATEMENTS = (
    ast.Assign, ast.AugAssign, ast.AnnAssign, ast.If, ast.While, ast.For, ast.Return, ast.Break, ast.Continue,
    ast.Pass, ast.Raise, ast.Try, ast.Expr, ast.FunctionDef, ast.ClassDef, ast.ImportFrom,
)
EXPRESSIONS = (
    ast.BoolOp, ast.BinOp, ast.UnaryOp, ast.Lambda, ast.IfExp, ast.Dict, ast.Set, ast.ListComp, ast.Compare,
    ast.Call, ast.FormattedValue, ast.JoinedStr, ast.Constant, ast.Attribute, ast.Subscript, ast.Name, ast.List,
    ast.Tuple, ast.Slice,
)
OWN_NAMES = set("""len range enumerate zip min max sum abs sorted reversed int str bool list tuple dict set frozenset
isinstance ord repr any all divmod Exception ValueError TypeError KeyError IndexError LookupError ZeroDivisionError
ArithmeticError OverflowError RuntimeError NotImplementedError AttributeError StopIteration""".split())
METHODS = set("""append clear copy count endswith extend find get index insert isalnum isalpha isdigit islower isspace
isupper items join keys ljust lower lstrip partition pop remove replace reverse rfind rjust rpartition rsplit rstrip
setdefault split splitlines startswith strip update upper values zfill bit_length""".split())
WORDS = """type typing typing_extensions enum Enum IntEnum StrEnum Flag IntFlag Generic Protocol ABC ABCMeta
namedtuple NamedTuple TypedDict TYPE_CHECKING abstractmethod""".split()
PARTS_OF_WORDS = ("dataclass", "overload", "contextmanager")
UNUSED_NAMES = set("""register mro elements open input version_info with_traceback add_note attrgetter breakpoint
builtins compile copyright credits delattr dir eval exec exit gc getattr globals hasattr help id importlib license
locals methodcaller os quit setattr super type vars sys __name__ format format_map""".split())
WALKED_AT_ONCE = {"zip", "enumerate", "reversed", "range", "items", "keys", "values"}
WALKERS = {"list", "tuple", "dict", "sorted", "sum", "any", "all", "enumerate", "zip", "min", "max", "join"}
CHANGES = {"append", "clear", "extend", "insert", "pop", "remove", "reverse", "setdefault", "update"}


def package_files():
    return sorted(name for name in os.listdir(FOLDER) if name != "__pycache__")


def text_of(name):
    with open(os.path.join(FOLDER, name), encoding="utf-8", newline="") as file:
        return file.read()


def nodes_of(name):
    return list(ast.walk(ast.parse(text_of(name))))


def bound_names(nodes):
    """Every name that a file gives a meaning to."""
    found = []
    for node in nodes:
        if isinstance(node, ast.Name) and isinstance(node.ctx, ast.Store):
            found.append(node.id)
        elif isinstance(node, (ast.FunctionDef, ast.ClassDef)):
            found.append(node.name)
        elif isinstance(node, ast.arg):
            found.append(node.arg)
        elif isinstance(node, ast.alias):
            found.append(node.asname or node.name)
    return found


def called_name(node):
    """The name of the function or method that is called there, if any."""
    if not isinstance(node, ast.Call):
        return None
    return getattr(node.func, "id", getattr(node.func, "attr", None))


def drawn_modules(name):
    """The files of the package that a file draws from."""
    return [node.module.split(".")[1] + ".py" for node in nodes_of(name) if isinstance(node, ast.ImportFrom)]


class Files(unittest.TestCase):
    def test_names(self):
        self.assertIn("__init__.py", package_files())
        for name in package_files():
            self.assertRegex(name, r"^(__init__|__main__|[a-z][a-z0-9_]*)\.py$")
            self.assertNotIn(name[:-3], dir(builtins))

    def test_signs_and_size(self):
        for name in package_files():
            lines = text_of(name).split("\n")
            self.assertLessEqual(len(lines), 400, name)
            for number, line in enumerate(lines, start=1):
                self.assertRegex(line, r"^[ -~]{0,120}$", (name, number))

    def test_length_of_functions(self):
        for name in package_files():
            for node in nodes_of(name):
                if isinstance(node, ast.FunctionDef):
                    self.assertLessEqual(node.end_lineno - node.lineno + 1, 40, (name, node.name))

    def test_words(self):
        for name in package_files():
            text = text_of(name)
            for word in WORDS:
                self.assertIsNone(re.search(rf"\b{word}\b", text), (name, word))
            for word in PARTS_OF_WORDS:
                self.assertNotIn(word, text, name)


class Forms(unittest.TestCase):
    def test_statements_and_expressions(self):
        for name in package_files():
            for node in nodes_of(name):
                where = (name, getattr(node, "lineno", 0), ast.dump(node)[:80])
                if isinstance(node, ast.stmt):
                    self.assertIsInstance(node, STATEMENTS, where)
                if isinstance(node, ast.expr):
                    self.assertIsInstance(node, EXPRESSIONS, where)
                if isinstance(node, ast.operator):
                    self.assertNotIsInstance(node, (ast.Div, ast.MatMult), where)
                if isinstance(node, ast.Constant):
                    self.assertIn(type(node.value), (int, str, bool, type(None)), where)
                if isinstance(node, ast.Assign):
                    self.assertEqual(len(node.targets), 1, where)
                if isinstance(node, (ast.For, ast.While)):
                    self.assertEqual(node.orelse, [], where)

    def test_narrower_forms(self):
        for name in package_files():
            for node in nodes_of(name):
                where = (name, getattr(node, "lineno", 0))
                if isinstance(node, ast.Compare) and isinstance(node.ops[0], (ast.Is, ast.IsNot)):
                    self.assertIsInstance(node.comparators[0], ast.Constant, where)
                if isinstance(node, ast.ListComp):
                    self.assertEqual(len(node.generators), 1, where)
                    self.assertLessEqual(len(node.generators[0].ifs), 1, where)
                if isinstance(node, ast.Constant) and isinstance(node.value, str):
                    self.assertNotIn("%", node.value, where)
                self.assertNotIsInstance(node, (ast.Set, ast.Pow, ast.AnnAssign), where)
                self.assertNotIn(called_name(node), ("set", "frozenset"), where)
                self.assertIsNone(getattr(node, "annotation", None) or getattr(node, "returns", None), where)

    def test_walked_at_once(self):
        for name in package_files():
            nodes = nodes_of(name)
            walked = [node.iter for node in nodes if isinstance(node, (ast.For, ast.comprehension))]
            for node in nodes:
                if called_name(node) in WALKERS:
                    walked.extend(node.args)
            for node in nodes:
                if called_name(node) in WALKED_AT_ONCE:
                    self.assertIn(node, walked, (name, node.lineno))

    def test_what_a_loop_walks_is_not_changed_in_it(self):
        for name in package_files():
            for loop in nodes_of(name):
                if not isinstance(loop, ast.For):
                    continue
                walked = {node.id for node in ast.walk(loop.iter) if isinstance(node, ast.Name)}
                for node in [inner for row in loop.body for inner in ast.walk(row)]:
                    changed = node.func.value if called_name(node) in CHANGES else None
                    if isinstance(node, ast.Subscript) and isinstance(node.ctx, ast.Store):
                        changed = node.value
                    self.assertNotIn(getattr(changed, "id", None), walked, (name, loop.lineno))

    def test_the_top_of_a_file(self):
        for name in package_files():
            rows = ast.parse(text_of(name)).body
            self.assertIsInstance(rows[0], ast.Expr, name)
            bound = []
            for row in rows[1:]:
                self.assertIsInstance(row, (ast.ImportFrom, ast.FunctionDef, ast.ClassDef, ast.Assign), name)
                if isinstance(row, ast.Assign):
                    bound.append(row.targets[0].id)
                    self.assertNotIsInstance(row.value, (ast.List, ast.Dict), (name, row.lineno))
                elif isinstance(row, ast.ImportFrom):
                    bound.extend(drawn.name for drawn in row.names)
                else:
                    bound.append(row.name)
            self.assertEqual(len(bound), len(set(bound)), name)

    def test_functions(self):
        for name in package_files():
            for node in nodes_of(name):
                if isinstance(node, (ast.FunctionDef, ast.ClassDef)):
                    self.assertEqual(node.decorator_list, [], (name, node.name))
                if isinstance(node, ast.arguments):
                    self.assertIsNone(node.vararg or node.kwarg, name)
                    self.assertEqual(node.kwonlyargs + node.posonlyargs, [], name)

    def test_imports(self):
        for name in package_files():
            for node in nodes_of(name):
                if isinstance(node, ast.ImportFrom):
                    self.assertEqual(node.level, 0, name)
                    self.assertRegex(node.module, r"^interlace\.[a-z0-9_]+$", name)
                    source = text_of(node.module.split(".")[1] + ".py")
                    for drawn in node.names:
                        self.assertRegex(source, rf"(?m)^((def|class) )?{drawn.name}\b", (name, drawn.name))


    def test_no_two_files_draw_from_one_another(self):
        for name in package_files():
            reached = set()
            coming = set(drawn_modules(name))
            while coming - reached:
                reached |= coming
                coming = {far for near in coming for far in drawn_modules(near)}
            self.assertNotIn(name, reached)

    def test_what_is_drawn_from_a_file_is_used(self):
        for name in package_files():
            nodes = nodes_of(name)
            used = {node.id for node in nodes if isinstance(node, ast.Name)}
            for node in nodes:
                if isinstance(node, ast.ImportFrom):
                    self.assertLessEqual({drawn.name for drawn in node.names}, used, name)


class Names(unittest.TestCase):
    def test_no_local_is_called_like_an_import(self):
        for name in package_files():
            nodes = nodes_of(name)
            drawn = {far.name for node in nodes if isinstance(node, ast.ImportFrom) for far in node.names}
            held = [node for node in nodes if not isinstance(node, ast.alias)]
            self.assertEqual(drawn & set(bound_names(held)), set(), name)

    def test_names_that_are_not_used(self):
        for name in package_files():
            nodes = nodes_of(name)
            names = set(bound_names(nodes)) | {node.id for node in nodes if isinstance(node, ast.Name)}
            names |= {node.attr for node in nodes if isinstance(node, ast.Attribute)}
            self.assertEqual(names & UNUSED_NAMES, set(), name)

    def test_bound_names(self):
        for name in package_files():
            for bound in bound_names(nodes_of(name)):
                if bound not in ("__init__", "__eq__", "__repr__", "__str__", "__len__"):
                    self.assertRegex(bound, r"^[A-Za-z][A-Za-z0-9_]*$", name)
                self.assertNotIn(bound, dir(builtins), name)

    def test_only_allowed_names_of_pythons_own(self):
        for name in package_files():
            nodes = nodes_of(name)
            bound = set(bound_names(nodes))
            for node in nodes:
                if isinstance(node, ast.Name) and node.id not in bound:
                    self.assertIn(node.id, OWN_NAMES, (name, node.lineno))

    def test_only_allowed_methods(self):
        own = set()
        for name in package_files():
            own.update(node.name for node in nodes_of(name) if isinstance(node, ast.FunctionDef))
        for name in package_files():
            for node in nodes_of(name):
                if isinstance(node, ast.Call) and isinstance(node.func, ast.Attribute):
                    self.assertIn(node.func.attr, METHODS | own, (name, node.lineno))


if __name__ == "__main__":
    unittest.main()

"""What of LANGUAGE.md can be seen from outside: sizes, imports, names, statements and builtins of the package."""

import ast
import builtins
import io
import os
import re
import tokenize
import unittest
import warnings

FOLDER = os.path.join(os.path.dirname(os.path.dirname(os.path.abspath(__file__))), "lateno")
FILES = sorted(name for name in os.listdir(FOLDER) if name != "__pycache__")

BUILTINS = set(
    "len range enumerate zip min max sum abs sorted reversed int str bool list tuple dict isinstance ord repr any all "
    "divmod Exception ValueError TypeError KeyError IndexError".split()
)
METHODS = set(
    "append bit_length clear copy count endswith extend find get index insert items join keys lower lstrip partition pop remove "
    "replace reverse rfind rstrip setdefault split startswith strip update upper values".split()
)
ITERATING = ("list", "tuple", "dict", "sorted", "sum", "any", "all", "enumerate", "zip", "max", "min", "len", "reversed")
# the words that L17 bars, and the names that it bars
WORDS = set(
    "type typing typing_extensions enum Enum IntEnum StrEnum Flag IntFlag Generic Protocol ABC ABCMeta namedtuple "
    "NamedTuple TypedDict TYPE_CHECKING abstractmethod".split()
)
NAMES = set(
    "register mro elements open input law version_info with_traceback add_note attrgetter breakpoint builtins compile "
    "copyright credits delattr dir eval exec exit gc getattr globals hasattr help id importlib license locals "
    "methodcaller os quit setattr super type vars sys".split()
)
BEGINNINGS = ("_wall", "_pe_", "_dcw_", "_enum_", "_cm_", "_twin_re_", "_lay_", "_law_", "_stub_", "_sre")
ATTRIBUTES = set(
    "items keys values pop update append clear extend insert remove reverse setdefault sort args encode decode hex "
    "fromhex format".split()
)
STATEMENTS = (
    ast.FunctionDef, ast.ClassDef, ast.Return, ast.Assign, ast.AugAssign, ast.For, ast.While, ast.If, ast.Raise, ast.Expr,
    ast.Pass, ast.Break, ast.Continue, ast.ImportFrom, ast.Try,
)
BARRED = (
    ast.Lambda, ast.Yield, ast.YieldFrom, ast.Set, ast.SetComp, ast.GeneratorExp, ast.Await, ast.NamedExpr, ast.Starred,
    ast.Pow, ast.Div, ast.MatMult, ast.Mod,
)


def read(name):
    with open(os.path.join(FOLDER, name), encoding="utf-8", newline="") as file:
        return file.read()


def trees():
    return [(name, ast.parse(read(name))) for name in FILES]


def functions(tree):
    return [one for one in ast.walk(tree) if isinstance(one, ast.FunctionDef)]


def bound_in(function):
    """All names that a function binds: parameters, targets, nested functions."""
    found = [one.arg for one in ast.walk(function) if isinstance(one, ast.arg)]
    found += [one.id for one in ast.walk(function) if isinstance(one, ast.Name) and isinstance(one.ctx, ast.Store)]
    return found


def imported(tree):
    return [(node.module, one.name) for node in tree.body if isinstance(node, ast.ImportFrom) for one in node.names]


def words_of_code(text):
    """All words of a file but those in comments and docstrings."""
    docs = set()
    for node in ast.walk(ast.parse(text)):
        if isinstance(node, (ast.Module, ast.ClassDef, ast.FunctionDef)) and ast.get_docstring(node) is not None:
            docs.add(node.body[0].lineno)
    found = set()
    for token in tokenize.generate_tokens(io.StringIO(text).readline):
        if token.type == tokenize.COMMENT or (token.type == tokenize.STRING and token.start[0] in docs):
            continue
        found |= set(re.findall("[A-Za-z_0-9]+", token.string))
    return found


class Files(unittest.TestCase):
    def test_names_sizes_and_characters(self):
        self.assertIn("__init__.py", FILES)
        for name in FILES:
            self.assertTrue(re.fullmatch("[a-z_0-9]+[.]py", name), name)
            text = read(name)
            self.assertTrue(all(" " <= sign <= "~" or sign == "\n" for sign in text), name)
            self.assertLessEqual(len(text.split("\n")), 399, name)
            self.assertLessEqual(max(len(line) for line in text.split("\n")), 120, name)
            self.assertNotIn("_wall", text)
            with warnings.catch_warnings():
                warnings.simplefilter("error")
                compile(text, name, "exec")

    def test_functions_are_short(self):
        for name, tree in trees():
            for one in functions(tree):
                self.assertLessEqual(one.end_lineno - one.lineno + 1, 40, (name, one.name))

    def test_module_level(self):
        for name, tree in trees():
            self.assertIsNotNone(ast.get_docstring(tree), name)
            bound = []
            for at, node in enumerate(tree.body):
                if isinstance(node, ast.ImportFrom):
                    self.assertTrue(all(isinstance(one, (ast.ImportFrom, ast.Expr)) for one in tree.body[:at]), name)
                    self.assertTrue(all(one.asname is None for one in node.names), name)
                    bound += [one.name for one in node.names]
                elif isinstance(node, (ast.FunctionDef, ast.ClassDef)):
                    bound.append(node.name)
                elif isinstance(node, ast.Assign):
                    self.assertEqual(len(node.targets), 1)
                    bound.append(node.targets[0].id)
                    ast.literal_eval(node.value)
                else:
                    self.assertTrue(at == 0 and isinstance(node, ast.Expr), (name, node.lineno))
            self.assertEqual(len(bound), len(set(bound)), name)
            self.assertFalse(set(bound) & set(dir(builtins)), name)


class Imports(unittest.TestCase):
    def test_they_name_the_file_that_defines_the_name(self):
        for name, tree in trees():
            for module, word in imported(tree):
                self.assertTrue(module.startswith("lateno."), (name, module))
                other = ast.parse(read(module.split(".", 1)[1] + ".py"))
                own = [one.name for one in other.body if isinstance(one, (ast.FunctionDef, ast.ClassDef))]
                own += [one.targets[0].id for one in other.body if isinstance(one, ast.Assign)]
                self.assertIn(word, own, (name, module))
                used = [one.id for one in ast.walk(tree) if isinstance(one, ast.Name)]
                self.assertIn(word, used, (name, "not used", word))

    def test_no_two_files_import_from_each_other(self):
        needs = {name: {module.split(".", 1)[1] + ".py" for module, _ in imported(tree)} for name, tree in trees()}
        while needs:
            free = [name for name, rest in needs.items() if not rest & set(needs)]
            self.assertTrue(free, needs)
            for name in free:
                del needs[name]


class Code(unittest.TestCase):
    def test_statements_and_expressions(self):
        for name, tree in trees():
            for node in ast.walk(tree):
                where = (name, getattr(node, "lineno", None), type(node).__name__)
                if isinstance(node, ast.stmt):
                    self.assertIsInstance(node, STATEMENTS, where)
                self.assertNotIsInstance(node, BARRED, where) if not is_star_of_zip(tree, node) else None
                if isinstance(node, (ast.FunctionDef, ast.ClassDef)):
                    self.assertEqual(node.decorator_list, [], where)
                if isinstance(node, ast.Constant):
                    self.assertNotIsInstance(node.value, (float, complex, bytes), where)
                    if isinstance(node.value, str):
                        self.assertNotIn("\x25", node.value, where)
                if isinstance(node, ast.Compare):
                    for sign, side in zip(node.ops, node.comparators):
                        if isinstance(sign, (ast.Is, ast.IsNot)):
                            self.assertTrue(isinstance(side, ast.Constant) and side.value in (None, True, False), where)

    def test_handlers_name_own_errors(self):
        own = [one.name for _, tree in trees() for one in tree.body if isinstance(one, ast.ClassDef)]
        for name, tree in trees():
            for node in ast.walk(tree):
                if isinstance(node, ast.Try):
                    self.assertEqual(node.finalbody, [], (name, node.lineno))
                    for handler in node.handlers:
                        self.assertIsInstance(handler.type, ast.Name, (name, handler.lineno))
                        self.assertIn(handler.type.id, own, (name, handler.lineno))

    def test_nothing_is_nested_or_annotated(self):
        for name, tree in trees():
            for one in functions(tree):
                self.assertEqual(len(functions(one)), 1, (name, one.name))
                self.assertIsNone(one.returns)
                arguments = one.args
                self.assertTrue(all(told.annotation is None for told in arguments.args), (name, one.name))
                self.assertEqual((arguments.vararg, arguments.kwarg, arguments.kwonlyargs, arguments.posonlyargs), (None, None, [], []))

    def test_names(self):
        for name, tree in trees():
            classes = {one.name for one in tree.body if isinstance(one, ast.ClassDef)}
            taken = classes | {word for _, word in imported(tree)} | set(dir(builtins))
            for one in functions(tree):
                bound = set(bound_in(one))
                self.assertFalse(bound & taken, (name, one.name, bound & taken))
                self.assertFalse((bound | {one.name}) & NAMES, (name, one.name))
                for word in bound | {one.name}:
                    self.assertFalse(word.startswith(BEGINNINGS), (name, word))
                    self.assertTrue(word == "__init__" or not word.startswith("__"), (name, word))
                read_names = [node.id for node in ast.walk(one) if isinstance(node, ast.Name) and isinstance(node.ctx, ast.Load)]
                self.assertNotIn("_", read_names, (name, one.name))
            self.assertFalse(words_of_code(read(name)) & WORDS, name)

    def test_builtins(self):
        for name, tree in trees():
            for node in ast.walk(tree):
                if isinstance(node, ast.Name) and node.id in dir(builtins):
                    self.assertIn(node.id, BUILTINS, (name, node.lineno))

    def test_methods_and_attributes(self):
        own = {one.name for _, tree in trees() for node in tree.body if isinstance(node, ast.ClassDef) for one in functions(node)}
        assigned = set()
        for _, tree in trees():
            assigned |= {one.attr for one in ast.walk(tree) if isinstance(one, ast.Attribute) and isinstance(one.ctx, ast.Store)}
        self.assertFalse(assigned & ATTRIBUTES)
        self.assertFalse(assigned & NAMES)
        for name, tree in trees():
            called = [one.func for one in ast.walk(tree) if isinstance(one, ast.Call) and isinstance(one.func, ast.Attribute)]
            for one in called:
                self.assertIn(one.attr, own | METHODS, (name, one.lineno))
            for one in ast.walk(tree):
                if isinstance(one, ast.Attribute) and one not in called:
                    self.assertIn(one.attr, assigned, (name, one.lineno))

    def test_ranges_zips_and_views_are_iterated_on_the_spot(self):
        for name, tree in trees():
            right = set()
            for node in ast.walk(tree):
                if isinstance(node, (ast.For, ast.comprehension)):
                    right.add(node.iter)
                if isinstance(node, ast.Call) and isinstance(node.func, ast.Name) and node.func.id in ITERATING and node.args:
                    right |= set(node.args) if node.func.id in ("zip", "max", "min") else {node.args[0]}
                if isinstance(node, ast.Call) and isinstance(node.func, ast.Attribute) and node.func.attr == "join":
                    right |= set(node.args)
                if isinstance(node, ast.Compare) and isinstance(node.ops[0], (ast.In, ast.NotIn)):
                    right.add(node.comparators[0])
            for node in ast.walk(tree):
                if isinstance(node, ast.Call):
                    called = node.func.id if isinstance(node.func, ast.Name) else node.func.attr
                    if called in ("range", "zip", "enumerate", "reversed", "items", "keys", "values"):
                        self.assertIn(node, right, (name, node.lineno))

    def test_loops_do_not_change_what_they_go_over(self):
        for name, tree in trees():
            for loop in ast.walk(tree):
                if isinstance(loop, ast.For):
                    gone_over = {one.id for one in ast.walk(loop.iter) if isinstance(one, ast.Name)}
                    for word, line in changed_in(loop):
                        self.assertNotIn(word, gone_over, (name, line))


def changed_in(loop):
    """(name, line) of all that a loop's rows change by an item, a method that modifies, or +=."""
    found = []
    for node in [one for row in loop.body for one in ast.walk(row)]:
        if isinstance(node, ast.Subscript) and isinstance(node.ctx, ast.Store) and isinstance(node.value, ast.Name):
            found.append((node.value.id, node.lineno))
        if isinstance(node, ast.Call) and isinstance(node.func, ast.Attribute) and isinstance(node.func.value, ast.Name):
            if node.func.attr in ("append", "extend", "insert", "pop", "remove", "setdefault", "update", "clear"):
                found.append((node.func.value.id, node.lineno))
    return found


def is_star_of_zip(tree, node):
    """Whether a star stands in a call of zip, as L7 lets it."""
    if not isinstance(node, ast.Starred):
        return False
    calls = [one for one in ast.walk(tree) if isinstance(one, ast.Call) and node in one.args]
    return len(calls) == 1 and isinstance(calls[0].func, ast.Name) and calls[0].func.id == "zip"


if __name__ == "__main__":
    unittest.main()

"""The code of the package keeps to the rules of its language, as far as they can be seen from outside."""

import ast
import builtins
import functools
import pathlib
import re
import unittest

import filledrow

FOLDER = pathlib.Path(filledrow.__file__).parent
FILES = sorted(FOLDER.glob("*.py"))
BUILTINS = set(
    "len range enumerate zip min max sum abs sorted reversed int str bool bytes list tuple dict set isinstance ord repr"
    " any all divmod iter next property ValueError NotImplemented".split())
METHODS = set(
    "append clear copy count endswith extend find get index insert isalnum isalpha isdigit islower isspace isupper items"
    " join keys ljust lower lstrip partition pop remove replace reverse rfind rjust rpartition rsplit rstrip setdefault"
    " split splitlines startswith strip update upper values zfill bit_length isascii".split())
SPECIAL = set(
    "__init__ __eq__ __str__ __len__ __call__ __iter__ __lt__ __le__ __gt__ __ge__ __add__ __sub__ __mul__ __rmul__"
    " __floordiv__ __mod__ __and__ __or__ __invert__ __bool__ __contains__ __getitem__ __setitem__ __enter__ __exit__".split())
BARRED = (ast.Global, ast.Nonlocal, ast.GeneratorExp, ast.AsyncFunctionDef, ast.Await, ast.SetComp,
          ast.Set, ast.Lambda, ast.NamedExpr, ast.Div, ast.Import, ast.Delete, ast.AnnAssign, ast.AsyncFor, ast.Match)
WORDS = re.compile(r"\b(type|typing|enum|Enum|Flag|Generic|Protocol|ABC|namedtuple|overload|dataclass)\b|_wall|Meta")


@functools.cache
def trees():
    """Each file's name and its syntax."""
    return [(path.name, ast.parse(path.read_text())) for path in FILES]


def nodes(kind):
    """All nodes of a kind, each with the name of its file."""
    return [(name, node) for name, tree in trees() for node in ast.walk(tree) if isinstance(node, kind)]


def defined():
    """All names of attributes and methods of the package's own classes."""
    names = {node.name for _, node in nodes(ast.FunctionDef)}
    return names | {node.attr for _, node in nodes(ast.Attribute) if isinstance(node.ctx, ast.Store)}


def is_call_of(node, names):
    return isinstance(node, ast.Call) and isinstance(node.func, ast.Name) and node.func.id in names


def called_names(node):
    """The names that a function calls, and those of the properties that it reads."""
    calls = [part.func for part in ast.walk(node) if isinstance(part, ast.Call)]
    read = [part for part in ast.walk(node) if isinstance(part, ast.Attribute) and isinstance(part.ctx, ast.Load)]
    return ({func.id for func in calls if isinstance(func, ast.Name)} | {part.attr for part in read if part.attr in properties()}
            | {func.attr for func in calls if isinstance(func, ast.Attribute)})


@functools.cache
def properties():
    """The names of all properties."""
    return {node.name for _, node in nodes(ast.FunctionDef) if [told for told in node.decorator_list if is_named(told, "property")]}


def is_named(node, name):
    return isinstance(node, ast.Name) and node.id == name


def behind_signs():
    """All functions that a sign, a comparison, `str`, `len` or a property runs, by whatever name it calls them."""
    known = {}
    for name, node in nodes((ast.FunctionDef, ast.ClassDef)):
        if not [told for told in node.decorator_list if isinstance(told, ast.Attribute)]:
            known.setdefault(node.name, []).append((name, node))
    free = SPECIAL - {"__init__", "__call__", "__iter__", "__setitem__", "__enter__", "__exit__"}
    told, names = [], list(free | properties())
    for at in names:
        for name, node in known.get(at, []):
            if isinstance(node, ast.ClassDef):
                node = next((part for part in node.body if getattr(part, "name", None) == "__init__"), None)
            if node is not None and (name, node) not in told:
                told.append((name, node))
                names.extend(sorted(called_names(node) - set(names)))
    return told


def made_by_name(node):
    """The local variables of a function that it assigns nothing but objects made by the names of their classes."""
    classes = {part.name for _, part in nodes(ast.ClassDef)}
    told = {}
    for part in ast.walk(node):
        if isinstance(part, ast.Assign) and isinstance(part.targets[0], ast.Name):
            told.setdefault(part.targets[0].id, []).append(is_call_of(part.value, classes))
    return {name for name, made in told.items() if all(made)}


def strange_changes(node):
    """The rows of a function that set an attribute of something else than what it made, or call what it was passed."""
    passed = [arg.arg for arg in ast.walk(node.args) if isinstance(arg, ast.arg)]
    own = made_by_name(node) | ({passed[0]} if node.name == "__init__" else set())
    stored = [part for part in ast.walk(node) if isinstance(part, ast.Attribute) and not isinstance(part.ctx, ast.Load)]
    local = {part.id for part in ast.walk(node) if isinstance(part, ast.Name) and isinstance(part.ctx, ast.Store)}
    rows = [part.lineno for part in stored if not isinstance(part.value, ast.Name) or part.value.id not in own]
    return rows + [part.lineno for part in ast.walk(node) if is_call_of(part, local | set(passed))]


class Language(unittest.TestCase):
    def test_files_and_lines(self):
        self.assertEqual({path.suffix for path in FOLDER.iterdir() if path.name != "__pycache__"}, {".py"})
        for path in FILES:
            text = path.read_text()
            self.assertTrue(all(" " <= sign <= "~" or sign == "\n" for sign in text), path)
            self.assertLess(len(text.split("\n")), 400, path)
            self.assertLessEqual(max(len(line) for line in text.split("\n")), 120, path)

    def test_functions_are_small(self):
        for name, node in nodes(ast.FunctionDef):
            self.assertLessEqual(node.end_lineno - node.lineno + 1, 40, (name, node.name))

    def test_nothing_barred_stands(self):
        for name, node in nodes(BARRED):
            self.fail((name, node.lineno, type(node).__name__))

    def test_only_own_errors_are_caught(self):
        own = {node.name for name, node in nodes(ast.ClassDef) if name == "errors.py"}
        for name, node in nodes(ast.Try):
            self.assertEqual([type(told.type) for told in node.handlers if not isinstance(told.type, ast.Name)], [], name)
            self.assertEqual([told.type.id for told in node.handlers if told.type.id not in own], [], name)
            self.assertEqual(node.orelse, [], name)

    def test_module_level(self):
        for name, tree in trees():
            for node in tree.body:
                plain = (ast.ImportFrom, ast.FunctionDef, ast.ClassDef, ast.Expr)
                if not isinstance(node, plain):
                    self.assertIsInstance(node, ast.Assign, name)
                    ast.literal_eval(node.value)

    def test_imports(self):
        for name, node in nodes(ast.ImportFrom):
            self.assertTrue(node.module.startswith("filledrow."), name)
            self.assertEqual([alias.asname for alias in node.names if alias.asname], [])
        for name, tree in trees():
            used = {node.id for node in ast.walk(tree) if isinstance(node, ast.Name)}
            for node in tree.body:
                if isinstance(node, ast.ImportFrom):
                    self.assertEqual([alias.name for alias in node.names if alias.name not in used], [], name)

    def test_blocks(self):
        for name, node in nodes(ast.With):
            told = [is_call_of(item.context_expr, ("Trial",)) for item in node.items]
            self.assertEqual(told, [True], (name, node.lineno))
        exits = [node for _, node in nodes(ast.FunctionDef) if node.name == "__exit__"]
        finals = [part for _, node in nodes(ast.Try) for part in node.finalbody]
        for part in [part for node in exits for part in node.body] + finals:
            for inner in ast.walk(part):
                self.assertNotIsInstance(inner, (ast.Call, ast.BinOp, ast.Subscript, ast.Not, ast.Return, ast.For, ast.While), part.lineno)
                if isinstance(inner, ast.Compare):
                    self.assertIsInstance(inner.ops[0], (ast.Is, ast.IsNot), part.lineno)

    def test_builtins(self):
        for name, node in nodes(ast.Name):
            if hasattr(builtins, node.id):
                self.assertIsInstance(node.ctx, ast.Load, (name, node.id, node.lineno))
                self.assertIn(node.id, BUILTINS | {"staticmethod", "classmethod"}, (name, node.lineno))
        for name, node in nodes(ast.arg):
            self.assertFalse(hasattr(builtins, node.arg), (name, node.arg))

    def test_decorators(self):
        for name, node in nodes(ast.FunctionDef):
            for told in node.decorator_list:
                if isinstance(told, ast.Attribute):
                    self.assertEqual([told.value.id, told.attr], [node.name, "setter"], name)
                else:
                    self.assertIn(told.id, ("staticmethod", "classmethod", "property"), name)
        for name, node in nodes(ast.ClassDef):
            self.assertEqual(node.decorator_list, [], name)

    def test_attributes(self):
        own = defined()
        for name, node in nodes(ast.Attribute):
            self.assertIn(node.attr, own | METHODS | {"__class__", "__name__", "setter"}, (name, node.lineno))

    def test_special_methods(self):
        for name, node in nodes(ast.FunctionDef):
            if node.name.startswith("__"):
                self.assertIn(node.name, SPECIAL, name)

    def test_what_signs_run_changes_nothing(self):
        told = behind_signs()
        self.assertIn("of", {node.name for _, node in told})
        for name, node in told:
            self.assertEqual(strange_changes(node), [], (name, node.name))

    def test_the_look_at_what_signs_run(self):
        for text, rows in [
                ("def of(cls, ends):\n    made = cls()\n    made.ends = ends\n    return made", [3, 2]),
                ("def of(cls, ends):\n    made = Offers(ends)\n    made.ends = ends\n    return made", []),
                ("def of(cls, ends):\n    made = Offers(ends)\n    made = ends\n    made.ends = 1", [4]),
                ("def of(cls, ends):\n    ends.table = 1", [2]), ("def of(cls, ends):\n    return ends()", [2]),
                ("def of(cls, *, ends):\n    work = ends.work\n    return work(1)", [3]),
                ("def of(cls, ends):\n    ends.table.n += 1", [2]), ("def __init__(one, ends):\n    one.ends = ends", [])]:
            self.assertEqual(strange_changes(ast.parse(text).body[0]), rows, text)

    def test_strings_and_numbers(self):
        for name, tree in trees():
            told = [node.body[0].value for node in ast.walk(tree)
                    if isinstance(node, (ast.Module, ast.ClassDef, ast.FunctionDef)) and ast.get_docstring(node)]
            for node in ast.walk(tree):
                if isinstance(node, ast.Constant) and node not in told:
                    self.assertIn(type(node.value), (int, str, bool, type(None)), (name, node.lineno))
                    if isinstance(node.value, str):
                        self.assertNotIn("%", node.value)
                        self.assertIsNone(WORDS.search(node.value), (name, node.lineno))

    def test_what_is_sorted_is_plainly_numbers_or_strings(self):
        for name, node in nodes(ast.Call):
            if is_call_of(node, ("sorted",)):
                keys = [word for word in node.keywords if word.arg == "key"]
                plain = isinstance(node.args[0], ast.ListComp) and is_call_of(node.args[0].elt, ("int", "str"))
                self.assertTrue(plain or (keys and keys[0].value.id == "str"), (name, node.lineno))
            if is_call_of(node, ("min", "max")):
                told = [arg.elt if isinstance(arg, ast.ListComp) else arg for arg in node.args]
                self.assertTrue(all(is_call_of(part, ("int", "len")) for part in told), (name, node.lineno))
            if is_call_of(node, ("any", "all", "sum")):
                self.assertIsInstance(node.args[0], ast.ListComp, (name, node.lineno))
            if is_call_of(node, ("set",)):
                self.assertEqual(len(node.args), 1)

    def test_sets_are_only_measured(self):
        measured = [node.args[0] for _, node in nodes(ast.Call) if is_call_of(node, ("len",))]
        written = {ast.dump(node) for node in measured}
        for name, node in nodes(ast.Call):
            if is_call_of(node, ("set",)):
                self.assertIn(ast.dump(node), written, (name, node.lineno))

    def test_no_name_is_a_method_and_an_attribute(self):
        methods = {part.name for _, node in nodes(ast.ClassDef) for part in node.body if isinstance(part, ast.FunctionDef)}
        stored = {node.attr for _, node in nodes(ast.Attribute) if isinstance(node.ctx, ast.Store)}
        self.assertEqual(methods & stored, set())

    def test_imported_names_mean_nothing_else(self):
        for name, tree in trees():
            bound = [alias.name for node in tree.body if isinstance(node, ast.ImportFrom) for alias in node.names]
            bound += [node.name for node in tree.body if isinstance(node, (ast.ClassDef, ast.FunctionDef))]
            self.assertEqual(len(bound), len(set(bound)), name)
            told = {node.id for node in ast.walk(tree) if isinstance(node, ast.Name) and isinstance(node.ctx, ast.Store)}
            told |= {node.arg for node in ast.walk(tree) if isinstance(node, ast.arg)}
            self.assertEqual(told & set(bound), set(), name)

    def test_no_two_files_import_from_each_other(self):
        known = {name[:-3]: {node.module.partition(".")[2] for node in tree.body if isinstance(node, ast.ImportFrom)}
                 for name, tree in trees()}
        while known:
            free = [name for name, needed in known.items() if not needed & set(known)]
            self.assertNotEqual(free, [], known)
            known = {name: needed for name, needed in known.items() if name not in free}

    def test_generators_have_names_of_their_own(self):
        names = [node.name for _, node in nodes(ast.FunctionDef)]
        for _, node in nodes(ast.FunctionDef):
            if any(isinstance(part, (ast.Yield, ast.YieldFrom)) for part in ast.walk(node)):
                self.assertEqual(names.count(node.name), 1, node.name)


if __name__ == "__main__":
    unittest.main()

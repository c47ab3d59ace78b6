"""The form of the package's files: sizes, signs, imports, names and the parts of Python that they use."""

import ast
import os
from unittest import TestCase, main

PACKAGE = os.path.join(os.path.dirname(os.path.dirname(os.path.abspath(__file__))), "cardpanel")
BUILTINS = {
    "len", "range", "enumerate", "zip", "min", "max", "sum", "abs", "sorted", "reversed", "int", "str", "bool", "list",
    "tuple", "dict", "set", "isinstance", "ord", "any", "all", "divmod", "ValueError",
}
METHODS = {"__init__", "__eq__", "__len__", "__enter__", "__exit__"}
LIBRARY = {("math", "comb"), ("math", "gcd"), ("itertools", "combinations")}
WORDS = {
    "type", "typing", "enum", "Enum", "Generic", "Protocol", "ABC", "namedtuple", "eval", "exec", "open", "input",
    "register", "elements", "law", "id", "dir", "vars", "globals", "locals", "compile", "help", "os", "gc", "super",
}
CALLED = set("""append clear copy count endswith extend find get index insert isalnum isalpha isdigit islower isspace
isupper items join keys ljust lower lstrip partition pop remove replace reverse rfind rjust rpartition rsplit rstrip
setdefault split splitlines startswith strip update upper values zfill bit_length""".split())
COMPREHENSIONS = (ast.ListComp, ast.SetComp, ast.DictComp)
BARRED = (
    ast.AsyncFunctionDef, ast.AsyncFor, ast.AsyncWith, ast.Await, ast.GeneratorExp, ast.Import, ast.Global, ast.Yield,
    ast.YieldFrom, ast.Div, ast.Starred, ast.Set,
)


def package_files():
    return sorted(name for name in os.listdir(PACKAGE) if name != "__pycache__")


def text_of(name):
    with open(os.path.join(PACKAGE, name), encoding="utf-8") as file:
        return file.read()


def trees():
    return [(name, ast.parse(text_of(name))) for name in package_files()]


def functions_of(tree):
    return [node for node in ast.walk(tree) if isinstance(node, ast.FunctionDef)]


def names_bound(tree):
    """All names that a file gives something: functions, classes, parameters, variables and imports."""
    found = []
    for node in ast.walk(tree):
        if isinstance(node, (ast.FunctionDef, ast.ClassDef)):
            found.append(node.name)
        elif isinstance(node, ast.arg):
            found.append(node.arg)
        elif isinstance(node, ast.Name) and isinstance(node.ctx, ast.Store):
            found.append(node.id)
        elif isinstance(node, ast.alias):
            found.append(node.name)
    return found


def variables(comprehension):
    """The names that a comprehension gives something."""
    targets = [each.target for each in comprehension.generators]
    return {node.id for target in targets for node in ast.walk(target) if isinstance(node, ast.Name)} - {"_"}


class Form(TestCase):
    def test_files(self):
        for name in package_files():
            self.assertTrue(name.endswith(".py") and name == name.lower(), name)
            lines = text_of(name).split("\n")
            self.assertLessEqual(len(lines), 400, name)
            self.assertLessEqual(max(len(line) for line in lines), 120, name)
            self.assertTrue(all(" " <= sign <= "~" or sign == "\n" for sign in text_of(name)), name)

    def test_functions_are_short_and_plain(self):
        for name, tree in trees():
            for function in functions_of(tree):
                self.assertLessEqual(function.end_lineno - function.lineno + 1, 40, function.name)
                self.assertEqual(function.decorator_list, [])
                if function.name.startswith("__"):
                    self.assertIn(function.name, METHODS, name)

    def test_imports_name_the_defining_file_and_make_no_ring(self):
        imported = {}
        for name, tree in trees():
            imported[name] = []
            for node in ast.walk(tree):
                if isinstance(node, ast.ImportFrom) and not node.module.startswith("cardpanel."):
                    self.assertTrue(all((node.module, alias.name) in LIBRARY for alias in node.names), node.module)
                elif isinstance(node, ast.ImportFrom):
                    self.assertEqual(node.level, 0)
                    source = node.module.split(".")[1] + ".py"
                    imported[name].append(source)
                    defined = [each.name for each in ast.parse(text_of(source)).body if hasattr(each, "name")]
                    for alias in node.names:
                        self.assertIn(alias.name, defined)
                        self.assertIsNone(alias.asname)
        done = []
        while len(done) < len(imported):
            ready = [name for name in imported if name not in done and set(imported[name]) <= set(done)]
            self.assertNotEqual(ready, [], "files that import from each other")
            done += ready

    def test_imports_are_used_and_bound_once(self):
        for name, tree in trees():
            imports = [alias.name for node in tree.body if isinstance(node, ast.ImportFrom) for alias in node.names]
            used = [node.id for node in ast.walk(tree) if isinstance(node, ast.Name) and isinstance(node.ctx, ast.Load)]
            bound = names_bound(tree)
            for each in imports:
                self.assertIn(each, used, name)
                self.assertEqual(bound.count(each), 1, (name, each))

    def test_module_level(self):
        kinds = (ast.ImportFrom, ast.FunctionDef, ast.ClassDef, ast.Assign)
        for name, tree in trees():
            self.assertIsNotNone(ast.get_docstring(tree), name)
            for node in tree.body[1:]:
                self.assertIsInstance(node, kinds, name)
                if isinstance(node, ast.Assign):
                    values = node.value.values if isinstance(node.value, ast.Dict) else [node.value]
                    self.assertTrue(all(isinstance(each, ast.Constant) for each in values), name)

    def test_names_and_builtins(self):
        builtins = dir(__builtins__) if not isinstance(__builtins__, dict) else list(__builtins__)
        for name, tree in trees():
            bound = names_bound(tree)
            for each in bound:
                self.assertNotIn(each, WORDS, name)
                self.assertNotIn(each, builtins, name)
            for node in ast.walk(tree):
                self.assertNotIsInstance(node, BARRED, name)
                if isinstance(node, ast.Name) and node.id in builtins:
                    self.assertIn(node.id, BUILTINS, name)

    def test_what_is_done_when_a_block_is_left_is_plain(self):
        for name, tree in trees():
            for function in [each for each in functions_of(tree) if each.name == "__exit__"]:
                for row in function.body:
                    self.assertIsInstance(row, ast.Assign, name)
                    self.assertIsInstance(row.value, ast.Attribute, name)

    def test_strings_have_no_barred_signs(self):
        for name, tree in trees():
            for node in ast.walk(tree):
                if isinstance(node, ast.Constant) and isinstance(node.value, str):
                    self.assertNotIn("%", node.value, name)
                    self.assertNotIn("__", node.value, name)

    def test_sets_stand_in_sorted_or_len_alone(self):
        for name, tree in trees():
            calls = [node for node in ast.walk(tree) if isinstance(node, ast.Call)]
            sets = [node for node in calls if isinstance(node.func, ast.Name) and node.func.id == "set"]
            around = [node for node in calls if isinstance(node.func, ast.Name) and node.func.id in ("sorted", "len")]
            for each in sets:
                self.assertTrue(any(each in node.args for node in around), (name, each.lineno))

    def test_methods_are_those_of_the_list_or_own_ones(self):
        own = {each.name for _, tree in trees() for each in functions_of(tree)}
        for name, tree in trees():
            for node in ast.walk(tree):
                if isinstance(node, ast.Call) and isinstance(node.func, ast.Attribute):
                    self.assertTrue(node.func.attr in CALLED or node.func.attr in own, (name, node.func.attr))

    def test_inner_comprehensions_have_names_of_their_own(self):
        for name, tree in trees():
            for outer in [node for node in ast.walk(tree) if isinstance(node, COMPREHENSIONS)]:
                for inner in [node for node in ast.walk(outer) if isinstance(node, COMPREHENSIONS) and node != outer]:
                    self.assertFalse(variables(outer) & variables(inner), (name, inner.lineno))

    def test_the_interface_is_no_part_of_the_tests(self):
        self.assertFalse([name for name in package_files() if name.startswith("test")])


if __name__ == "__main__":
    main()

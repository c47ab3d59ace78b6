"""The form of the package's files: sizes, signs, imports, names and the parts of Python that they use."""

import ast
import os
from unittest import TestCase, main

PACKAGE = os.path.join(os.path.dirname(os.path.dirname(os.path.abspath(__file__))), "cardpanel")
BUILTINS = {
    "len", "range", "enumerate", "zip", "min", "max", "sum", "abs", "sorted", "reversed", "int", "str", "bool", "list",
    "tuple", "dict", "set", "isinstance", "ord", "any", "all", "divmod", "ValueError",
}
METHODS = {"__init__", "__eq__", "__len__", "__enter__", "__exit__"}
LIBRARY = {("math", "comb"), ("math", "gcd"), ("itertools", "combinations")}
WORDS = {
    "type", "typing", "enum", "Enum", "Generic", "Protocol", "ABC", "namedtuple", "eval", "exec", "open", "input",
    "register", "elements", "law", "id", "dir", "vars", "globals", "locals", "compile", "help", "os", "gc", "super",
}
CALLED = set("""append clear copy count endswith extend find get index insert isalnum isalpha isdigit islower isspace
isupper items join keys ljust lower lstrip partition pop remove replace reverse rfind rjust rpartition rsplit rstrip
setdefault split splitlines startswith strip update upper values zfill bit_length""".split())
COMPREHENSIONS = (ast.ListComp, ast.SetComp, ast.DictComp)
LAZY = {"range", "zip", "enumerate", "reversed", "combinations"}
VIEWS = {"items", "keys", "values"}
# These go over their first argument at once; what makes another such value has to be gone over at once itself.
TAKERS = {"list", "tuple", "dict", "sorted", "sum", "any", "all", "bytes", "enumerate", "zip"}
LAZY_CALLS = ["range(3)", "zip(xs, ys)", "enumerate(xs)", "reversed(xs)", "d.items()", "d.keys()", "d.values()"]
BARRED = (
    ast.AsyncFunctionDef, ast.AsyncFor, ast.AsyncWith, ast.Await, ast.GeneratorExp, ast.Import, ast.Global, ast.Yield,
    ast.YieldFrom, ast.Div, ast.Starred, ast.Set,
)


def package_files():
    return sorted(name for name in os.listdir(PACKAGE) if name != "__pycache__")


def text_of(name):
    with open(os.path.join(PACKAGE, name), encoding="utf-8") as file:
        return file.read()


def trees():
    return [(name, ast.parse(text_of(name))) for name in package_files()]


def functions_of(tree):
    return [node for node in ast.walk(tree) if isinstance(node, ast.FunctionDef)]


def names_bound(tree):
    """All names that a file gives something: functions, classes, parameters, variables and imports."""
    found = []
    for node in ast.walk(tree):
        if isinstance(node, (ast.FunctionDef, ast.ClassDef)):
            found.append(node.name)
        elif isinstance(node, ast.arg):
            found.append(node.arg)
        elif isinstance(node, ast.Name) and isinstance(node.ctx, ast.Store):
            found.append(node.id)
        elif isinstance(node, ast.alias):
            found.append(node.name)
    return found


def variables(comprehension):
    """The names that a comprehension gives something."""
    targets = [each.target for each in comprehension.generators]
    return {node.id for target in targets for node in ast.walk(target) if isinstance(node, ast.Name)} - {"_"}


def called_name(node):
    """The bare name that a node calls, None if it calls none."""
    return node.func.id if isinstance(node, ast.Call) and isinstance(node.func, ast.Name) else None


def lazy_kind(node):
    """The name of what makes a value that is to be gone over at once, None for any other node."""
    if isinstance(node, ast.Call) and isinstance(node.func, ast.Attribute) and node.func.attr in VIEWS:
        return node.func.attr
    return called_name(node) if called_name(node) in LAZY else None


def goes_over(around, node):
    """Whether what stands around a range, zip, enumerate, reversed, combinations or view goes over it at once."""
    kind, name = lazy_kind(node), called_name(around)
    if isinstance(around, (ast.For, ast.comprehension)):
        return around.iter is node
    if isinstance(around, ast.Compare):
        return kind in ("range", "keys") and around.left is not node and isinstance(around.ops[0], (ast.In, ast.NotIn))
    if name in ("min", "max"):
        return around.args == [node] and all(each.arg == "default" for each in around.keywords)
    if name == "len":
        return kind in ("range", "items")
    if name == "reversed":
        return kind == "range"
    if name == "combinations":
        return kind in ("range", "zip", "items") and around.args[0] is node
    if kind == "combinations" and name in ("dict", "bytes", "enumerate", "zip"):
        return False
    # What is gone over beside others, as in a second place of `zip`, is not what the rule allows.
    return name in TAKERS and around.args[0] is node


def names_lazy(node):
    """Whether a node names what makes a value that is to be gone over at once."""
    return isinstance(node, ast.Name) and node.id in LAZY or isinstance(node, ast.Attribute) and node.attr in VIEWS


def not_gone_over(tree):
    """The rows in which a range, zip, enumerate, reversed, combinations or view is not gone over at once."""
    found = []
    for around in ast.walk(tree):
        for node in ast.iter_child_nodes(around):
            if lazy_kind(node) is not None and not goes_over(around, node):
                found.append(node.lineno)
            if names_lazy(node) and not (isinstance(around, ast.Call) and around.func is node):
                found.append(node.lineno)
    return sorted(found)


class Form(TestCase):
    def test_files(self):
        for name in package_files():
            self.assertTrue(name.endswith(".py") and name == name.lower(), name)
            lines = text_of(name).split("\n")
            self.assertLessEqual(len(lines), 400, name)
            self.assertLessEqual(max(len(line) for line in lines), 120, name)
            self.assertTrue(all(" " <= sign <= "~" or sign == "\n" for sign in text_of(name)), name)

    def test_functions_are_short_and_plain(self):
        for name, tree in trees():
            for function in functions_of(tree):
                self.assertLessEqual(function.end_lineno - function.lineno + 1, 40, function.name)
                self.assertEqual(function.decorator_list, [])
                if function.name.startswith("__"):
                    self.assertIn(function.name, METHODS, name)

    def test_imports_name_the_defining_file_and_make_no_ring(self):
        imported = {}
        for name, tree in trees():
            imported[name] = []
            for node in ast.walk(tree):
                if isinstance(node, ast.ImportFrom) and not node.module.startswith("cardpanel."):
                    self.assertTrue(all((node.module, alias.name) in LIBRARY for alias in node.names), node.module)
                elif isinstance(node, ast.ImportFrom):
                    self.assertEqual(node.level, 0)
                    source = node.module.split(".")[1] + ".py"
                    imported[name].append(source)
                    defined = [each.name for each in ast.parse(text_of(source)).body if hasattr(each, "name")]
                    for alias in node.names:
                        self.assertIn(alias.name, defined)
                        self.assertIsNone(alias.asname)
        done = []
        while len(done) < len(imported):
            ready = [name for name in imported if name not in done and set(imported[name]) <= set(done)]
            self.assertNotEqual(ready, [], "files that import from each other")
            done += ready

    def test_imports_are_used_and_bound_once(self):
        for name, tree in trees():
            imports = [alias.name for node in tree.body if isinstance(node, ast.ImportFrom) for alias in node.names]
            used = [node.id for node in ast.walk(tree) if isinstance(node, ast.Name) and isinstance(node.ctx, ast.Load)]
            bound = names_bound(tree)
            for each in imports:
                self.assertIn(each, used, name)
                self.assertEqual(bound.count(each), 1, (name, each))

    def test_module_level(self):
        kinds = (ast.ImportFrom, ast.FunctionDef, ast.ClassDef, ast.Assign)
        for name, tree in trees():
            self.assertIsNotNone(ast.get_docstring(tree), name)
            for node in tree.body[1:]:
                self.assertIsInstance(node, kinds, name)
                if isinstance(node, ast.Assign):
                    values = node.value.values if isinstance(node.value, ast.Dict) else [node.value]
                    self.assertTrue(all(isinstance(each, ast.Constant) for each in values), name)

    def test_names_and_builtins(self):
        builtins = dir(__builtins__) if not isinstance(__builtins__, dict) else list(__builtins__)
        for name, tree in trees():
            bound = names_bound(tree)
            for each in bound:
                self.assertNotIn(each, WORDS, name)
                self.assertNotIn(each, builtins, name)
            for node in ast.walk(tree):
                self.assertNotIsInstance(node, BARRED, name)
                if isinstance(node, ast.Name) and node.id in builtins:
                    self.assertIn(node.id, BUILTINS, name)

    def test_what_is_done_when_a_block_is_left_is_plain(self):
        for name, tree in trees():
            for function in [each for each in functions_of(tree) if each.name == "__exit__"]:
                for row in function.body:
                    self.assertIsInstance(row, ast.Assign, name)
                    self.assertIsInstance(row.value, ast.Attribute, name)

    def test_strings_have_no_barred_signs(self):
        for name, tree in trees():
            for node in ast.walk(tree):
                if isinstance(node, ast.Constant) and isinstance(node.value, str):
                    self.assertNotIn("%", node.value, name)
                    self.assertNotIn("__", node.value, name)

    def test_sets_stand_in_sorted_or_len_alone(self):
        for name, tree in trees():
            calls = [node for node in ast.walk(tree) if isinstance(node, ast.Call)]
            sets = [node for node in calls if isinstance(node.func, ast.Name) and node.func.id == "set"]
            around = [node for node in calls if isinstance(node.func, ast.Name) and node.func.id in ("sorted", "len")]
            for each in sets:
                self.assertTrue(any(each in node.args for node in around), (name, each.lineno))

    def test_ranges_zips_and_views_are_gone_over_at_once(self):
        for name, tree in trees():
            self.assertEqual(not_gone_over(tree), [], name)

    def test_ranges_zips_and_views_that_would_be_found(self):
        texts = (
            "own({})", "own(1, {})", "own(xs={})", "own(*{})", "self.own({})", "Own({})", "xs.append({})", "own([{}])",
            "own({} if xs else ys)", "own(xs or {})", "own(lambda: {})", "[x for x in xs if own({}, x)]",
            "[own(x, {}) for x in xs]", "[x for x in own({})]", "kept = {}", "one, two = {}", "xs += {}", "[{}, 1]",
            "{} == xs", "xs == {}", "{} in xs", "sorted(xs, key={})", "list(zip(xs, {}))", "max({}, key=own)",
            "min({}, 1)", "def own():\n    return {}", "def own(xs={}):\n    pass",
        )
        for made in LAZY_CALLS + ["combinations(xs, 2)"]:
            for text in texts:
                self.assertEqual(len(not_gone_over(ast.parse(text.replace("{}", made)))), 1, (text, made))
        for text in ("reversed(zip(xs, ys))", "reversed(enumerate(xs))", "reversed(d.items())",
                     "enumerate(combinations(xs, 2))", "combinations(reversed(xs), 2)", "combinations(xs, range(2))"):
            self.assertEqual(not_gone_over(ast.parse("list({})".format(text))), [1], text)
        self.assertEqual(not_gone_over(ast.parse("xs = len(zip(xs, ys))\ny in zip(xs, ys)")), [1, 2])
        self.assertEqual(not_gone_over(ast.parse("made = range\nown(zip)\nlook = d.items")), [1, 2, 3])

    def test_ranges_zips_and_views_that_may_stand(self):
        texts = (
            "for x in {}:\n    pass", "[x for x in {}]", "[y for x in xs for y in {}]", "own(list({}))",
            "own([x for x in {}])", "kept = list({})", "own(dict({}))", "sum({})", "min({})", "max({}, default=0)",
            "[x for x in enumerate({})]", "[x for x in zip({}, xs)]",
        )
        for made in LAZY_CALLS:
            for text in texts:
                self.assertEqual(not_gone_over(ast.parse(text.replace("{}", made))), [], (text, made))
        for text in ("x in range(3)", "x not in d.keys()", "len(range(3))", "len(d.items())",
                     "list(reversed(range(3)))", "sorted(combinations(range(3), 2))"):
            self.assertEqual(not_gone_over(ast.parse(text)), [], text)

    def test_methods_are_those_of_the_list_or_own_ones(self):
        own = {each.name for _, tree in trees() for each in functions_of(tree)}
        for name, tree in trees():
            for node in ast.walk(tree):
                if isinstance(node, ast.Call) and isinstance(node.func, ast.Attribute):
                    self.assertTrue(node.func.attr in CALLED or node.func.attr in own, (name, node.func.attr))

    def test_inner_comprehensions_have_names_of_their_own(self):
        for name, tree in trees():
            for outer in [node for node in ast.walk(tree) if isinstance(node, COMPREHENSIONS)]:
                for inner in [node for node in ast.walk(outer) if isinstance(node, COMPREHENSIONS) and node != outer]:
                    self.assertFalse(variables(outer) & variables(inner), (name, inner.lineno))

    def test_the_interface_is_no_part_of_the_tests(self):
        self.assertFalse([name for name in package_files() if name.startswith("test")])


if __name__ == "__main__":
    main()

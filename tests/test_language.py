"""The rules of the language that can be seen from the text of the files alone."""

import ast
import builtins
import pathlib
import unittest

import remainways

FOLDER = pathlib.Path(remainways.__file__).parent
FILES = sorted(path for path in FOLDER.rglob("*") if "__pycache__" not in path.parts)
CALLED = {
    "len", "range", "enumerate", "zip", "min", "max", "sum", "abs", "sorted", "reversed", "int", "str", "bool", "list",
    "tuple", "dict", "set", "isinstance", "ord", "repr", "any", "all", "divmod", "iter", "staticmethod", "property",
    "ValueError", "LookupError", "IndexError",
}
BUILTIN_METHODS = {
    "append", "clear", "copy", "count", "endswith", "extend", "find", "get", "index", "insert", "isalnum", "isalpha",
    "isdigit", "islower", "isspace", "isupper", "items", "join", "keys", "ljust", "lower", "lstrip", "partition", "pop",
    "remove", "replace", "reverse", "rfind", "rjust", "rpartition", "rsplit", "rstrip", "setdefault", "split",
    "splitlines", "startswith", "strip", "update", "upper", "values", "zfill", "bit_length", "isascii",
}
DOUBLE = {
    "__init__", "__eq__", "__repr__", "__str__", "__len__", "__iter__", "__add__", "__and__", "__bool__",
    "__contains__", "__call__",
}
# The files of classes whose objects keep what they find. No operator and no property makes use of these.
CHANGING = {"grove.py", "trails.py", "bench.py"}
BARRED = {"register", "mro", "elements", "open", "input", "law", "version_info", "with_traceback", "add_note"}
WORDS = ("type", "typing", "enum", "Enum", "Flag", "Generic", "Protocol", "ABC", "namedtuple", "NamedTuple")
REFUSED = (
    ast.Global, ast.AsyncFunctionDef, ast.Await, ast.AsyncFor, ast.AsyncWith, ast.Lambda, ast.GeneratorExp, ast.AugAssign,
    ast.AnnAssign, ast.Import,
)


def tree_of(path):
    """The tree of a file."""
    return ast.parse(path.read_text())


def own_names():
    """The names of all functions, methods, classes and module-level values of the package."""
    found = set()
    for path in FILES:
        for node in ast.walk(tree_of(path)):
            if isinstance(node, (ast.FunctionDef, ast.ClassDef)):
                found.add(node.name)
    return found


def bound_names(tree):
    """The names of parameters, variables, functions, classes and imports."""
    for node in ast.walk(tree):
        if isinstance(node, ast.Name) and isinstance(node.ctx, ast.Store):
            yield node.id
        elif isinstance(node, ast.arg):
            yield node.arg
        elif isinstance(node, (ast.FunctionDef, ast.ClassDef)):
            yield node.name
        elif isinstance(node, ast.alias):
            yield node.name


def mutated(function):
    """What a function changes: lists and dicts, each as the node that tells it."""
    for node in ast.walk(function):
        if isinstance(node, ast.Call) and isinstance(node.func, ast.Attribute) and node.func.attr in (
                "append", "extend", "pop", "insert", "remove", "clear", "update", "setdefault", "reverse"):
            yield node.func.value
        elif isinstance(node, ast.Subscript) and isinstance(node.ctx, (ast.Store, ast.Del)):
            yield node.value


def aliases(function, name):
    """All names of a function that may mean the same list as this one: one was given to the other."""
    pairs = []
    for node in ast.walk(function):
        if isinstance(node, ast.Assign) and isinstance(node.value, ast.Name):
            pairs += [{target.id, node.value.id} for target in node.targets if isinstance(target, ast.Name)]
    found = {name}
    for _ in pairs:
        found = found.union(*[pair for pair in pairs if pair & found])
    return found


def walked(loop):
    """The names of the lists and dicts that a loop walks itself."""
    head = loop.iter
    while isinstance(head, ast.Call) and isinstance(head.func, ast.Attribute) and head.func.attr in ("items", "keys", "values"):
        head = head.func.value
    heads = [head]
    if isinstance(head, ast.Call) and isinstance(head.func, ast.Name) and head.func.id in ("enumerate", "zip", "reversed"):
        heads = head.args
    return [node.id for node in heads if isinstance(node, ast.Name)]


class FilesTest(unittest.TestCase):
    def test_the_folder_has_files_of_the_language_alone(self):
        self.assertGreater(len(FILES), 10)
        for path in FILES:
            self.assertTrue(path.is_file() and path.suffix == ".py" and path.name == path.name.lower(), path)

    def test_characters_and_sizes(self):
        for path in FILES:
            lines = path.read_text().split("\n")
            self.assertLessEqual(len(lines), 400)
            for line in lines:
                self.assertLessEqual(len(line), 120)
                self.assertTrue(all(" " <= char <= "~" for char in line), (path, line))

    def test_functions_are_short(self):
        for path in FILES:
            for node in ast.walk(tree_of(path)):
                if isinstance(node, ast.FunctionDef):
                    self.assertLessEqual(node.end_lineno - node.lineno, 39, node.name)

    def test_strings(self):
        for path in FILES:
            self.assertNotIn("_wall", path.read_text())
            for node in ast.walk(tree_of(path)):
                if isinstance(node, ast.Constant):
                    self.assertNotIsInstance(node.value, (float, complex, bytes))
                    self.assertFalse(isinstance(node.value, str) and "%" in node.value)

    def test_imports_stand_at_the_top_and_come_from_the_package(self):
        for path in FILES:
            tree = tree_of(path)
            below = [node for node in ast.walk(tree) if isinstance(node, ast.ImportFrom) and node not in tree.body]
            self.assertEqual(below, [])
            for node in tree.body:
                if isinstance(node, ast.ImportFrom):
                    self.assertTrue(node.module.startswith("remainways.") and node.level == 0)
                    text = (FOLDER / f"{node.module.split('.')[1]}.py").read_text()
                    for alias in node.names:
                        self.assert_defined(alias, ast.parse(text), path)

    def assert_defined(self, alias, other, path):
        """The name is defined in the other file, and used in this one."""
        defined = [getattr(node, "name", "") for node in other.body]
        defined += [target.id for node in other.body if isinstance(node, ast.Assign) for target in node.targets]
        self.assertIn(alias.name, defined)
        self.assertIsNone(alias.asname)
        used = [node.id for node in ast.walk(tree_of(path)) if isinstance(node, ast.Name)]
        self.assertIn(alias.name, used, path)

    def test_module_level(self):
        for path in FILES:
            names = []
            for node in tree_of(path).body:
                if isinstance(node, ast.Expr):
                    self.assertIsInstance(node.value, ast.Constant)
                else:
                    self.assertIsInstance(node, (ast.ImportFrom, ast.FunctionDef, ast.ClassDef, ast.Assign))
                names += [getattr(node, "name", None) or target.id for target in getattr(node, "targets", [node])
                          if not isinstance(node, (ast.Expr, ast.ImportFrom))]
            self.assertEqual(len(names), len(set(names)))


class NodesTest(unittest.TestCase):
    def test_no_refused_kinds(self):
        for path in FILES:
            for node in ast.walk(tree_of(path)):
                self.assertNotIsInstance(node, REFUSED, path)
                self.assertFalse(isinstance(node, ast.BinOp) and isinstance(node.op, (ast.Div, ast.MatMult)))
                self.assertFalse(isinstance(node, ast.FunctionDef) and (node.returns or self.has_annotation(node)))

    def has_annotation(self, function):
        """Whether a parameter has one."""
        return any(node.annotation for node in ast.walk(function.args) if isinstance(node, ast.arg))

    def test_errors_that_are_caught_are_own_ones(self):
        own = {node.name for node in tree_of(FOLDER / "errors.py").body if isinstance(node, ast.ClassDef)}
        for path in FILES:
            for node in ast.walk(tree_of(path)):
                if isinstance(node, ast.ExceptHandler):
                    caught = node.type.elts if isinstance(node.type, ast.Tuple) else [node.type]
                    self.assertLessEqual({told.id for told in caught}, own)
                elif isinstance(node, ast.Try):
                    for row in node.finalbody:
                        self.assert_simple(row)

    def assert_simple(self, row):
        """What stands in a finally assigns names and constants, also under a question for None."""
        if isinstance(row, ast.If):
            self.assertIsInstance(row.test.ops[0], (ast.Is, ast.IsNot))
            for inner in row.body + row.orelse:
                self.assert_simple(inner)
        else:
            self.assertIsInstance(row, ast.Assign)
            self.assertIsInstance(row.value, (ast.Name, ast.Constant))

    def test_calls(self):
        own = own_names()
        for path in FILES:
            for node in ast.walk(tree_of(path)):
                if isinstance(node, ast.Call) and isinstance(node.func, ast.Name):
                    self.assertTrue(node.func.id in own or node.func.id in CALLED, node.func.id)
                elif isinstance(node, ast.Call):
                    self.assertTrue(node.func.attr in own or node.func.attr in BUILTIN_METHODS, node.func.attr)

    def test_len_is_no_len_of_a_range(self):
        for path in FILES:
            for node in ast.walk(tree_of(path)):
                if isinstance(node, ast.FunctionDef) and node.name == "__len__":
                    for told in [told.value for told in ast.walk(node) if isinstance(told, ast.Return)]:
                        self.assertEqual([told.func.id, len(told.args)], ["len", 1])
                        self.assertNotEqual(getattr(getattr(told.args[0], "func", None), "id", ""), "range")

    def test_builtins_have_no_other_meaning(self):
        for path in FILES:
            tree = tree_of(path)
            classes = {node.name for node in tree.body if isinstance(node, ast.ClassDef)}
            imports = {alias.name for node in tree.body if isinstance(node, ast.ImportFrom) for alias in node.names}
            for name in bound_names(tree):
                self.assertFalse(hasattr(builtins, name) and name not in DOUBLE, name)
                self.assertNotIn(name, BARRED)
            for node in ast.walk(tree):
                if isinstance(node, ast.Name) and isinstance(node.ctx, ast.Store):
                    self.assertNotIn(node.id, classes | imports)
                elif isinstance(node, ast.arg):
                    self.assertNotIn(node.arg, classes | imports)

    def test_words_that_do_not_occur(self):
        for path in FILES:
            for node in ast.walk(tree_of(path)):
                for word in (getattr(node, "id", ""), getattr(node, "attr", ""), getattr(node, "arg", "")):
                    self.assertNotIn(word, WORDS)

    def test_is_stands_beside_none_true_and_false(self):
        for path in FILES:
            for node in ast.walk(tree_of(path)):
                if isinstance(node, ast.Compare):
                    for sign, value in zip(node.ops, node.comparators):
                        if isinstance(sign, (ast.Is, ast.IsNot)):
                            self.assertTrue(isinstance(value, ast.Constant) and value.value in (None, True, False))

    def test_sets_are_sorted_on_the_spot(self):
        for path in FILES:
            tree = tree_of(path)
            inside = [node.args[0] for node in ast.walk(tree) if isinstance(node, ast.Call)
                      and isinstance(node.func, ast.Name) and node.func.id in ("sorted", "len") and node.args]
            for node in ast.walk(tree):
                self.assertNotIsInstance(node, (ast.Set, ast.SetComp))
                if isinstance(node, ast.Call) and isinstance(node.func, ast.Name) and node.func.id == "set":
                    self.assertIn(node, inside)

    def test_classes(self):
        for path in FILES:
            for node in tree_of(path).body:
                if isinstance(node, ast.ClassDef):
                    self.assertEqual(node.decorator_list, [])
                    for item in node.body:
                        self.assert_member(item)

    def assert_member(self, item):
        """What stands in a class is a docstring or a method of an allowed name."""
        if isinstance(item, ast.FunctionDef):
            self.assertTrue(not item.name.startswith("__") or item.name in DOUBLE, item.name)
            words = {ast.unparse(node) for node in item.decorator_list}
            self.assertLessEqual(words, {"property", "staticmethod", f"{item.name}.setter"})
        else:
            self.assertTrue(isinstance(item, ast.Expr) and isinstance(item.value, ast.Constant))

    def test_no_name_is_a_method_and_an_attribute(self):
        methods, attributes = set(), set()
        for path in FILES:
            for node in ast.walk(tree_of(path)):
                if isinstance(node, ast.ClassDef):
                    methods |= {item.name for item in node.body if isinstance(item, ast.FunctionDef) and item.name != "rounds"}
                elif isinstance(node, ast.Attribute) and isinstance(node.ctx, ast.Store):
                    attributes.add(node.attr)
        self.assertEqual(methods & attributes, set())

    def test_what_a_loop_walks_is_not_changed_in_it(self):
        for path in FILES:
            for function in ast.walk(tree_of(path)):
                if isinstance(function, ast.FunctionDef):
                    for loop in [node for node in ast.walk(function) if isinstance(node, ast.For)]:
                        changed = {told.id for told in mutated(loop) if isinstance(told, ast.Name)}
                        for name in walked(loop):
                            self.assertEqual(aliases(function, name) & changed, set(), (path.name, function.name))

    def test_lists_and_dicts_that_are_changed_are_new(self):
        # The readers of texts hand their lists on; no operator and no property reads texts.
        for path in FILES:
            for node in ast.walk(tree_of(path)):
                if isinstance(node, ast.FunctionDef) and node.name not in ("scan_term", "close_term"):
                    for told in mutated(node):
                        self.assert_changeable(path, node, told)

    def assert_changeable(self, path, function, told):
        """What is changed is new, or an item of what is new, or what an object that changes keeps for itself."""
        while isinstance(told, ast.Subscript):
            told = told.value
        if isinstance(told, ast.Attribute):
            self.assertEqual([told.value.id, path.name in CHANGING], ["self", True], (path, function.name))
        else:
            self.assert_new(function, told.id)

    def assert_new(self, function, name):
        """The function gives this name new lists or dicts alone."""
        values = [node.value for node in ast.walk(function) if isinstance(node, ast.Assign)
                  and any(getattr(target, "id", None) == name for target in node.targets)]
        self.assertTrue(values, (function.name, name))
        for value in values:
            made = isinstance(value, ast.Call) and getattr(value.func, "id", "") in ("list", "dict", "sorted")
            self.assertTrue(made or isinstance(value, (ast.List, ast.Dict, ast.ListComp, ast.DictComp)), name)


if __name__ == "__main__":
    unittest.main()

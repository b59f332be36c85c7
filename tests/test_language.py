"""The package keeps to the plain part of Python that it is written in: what can be seen from its syntax trees."""

import ast
import builtins
import pathlib
import re
import unittest

FOLDER = pathlib.Path(__file__).resolve().parent.parent / "neverapart"
BUILTINS = """len range enumerate zip min max sum abs sorted reversed int str bool list tuple dict set isinstance ord repr any all
    divmod getattr hasattr setattr map iter next type super ValueError TypeError KeyError IndexError""".split()
METHODS = """append clear copy count endswith extend find get index insert isalnum isalpha isdigit islower isspace isupper items
    join keys ljust lower lstrip partition pop remove replace reverse rfind rjust rpartition rsplit rstrip setdefault split
    splitlines startswith strip update upper values zfill bit_length""".split()
LIBRARY = {"heapq": ["heappush", "heappop", "heapify"], "math": ["gcd", "lcm", "isqrt", "comb"],
           "itertools": ["product", "combinations", "permutations", "chain"]}
DUNDERS = ["__init__", "__eq__", "__len__", "__add__", "__contains__", "__enter__", "__exit__"]
NEVER = (ast.GeneratorExp, ast.Import, ast.Global, ast.AsyncFunctionDef, ast.Await, ast.Div, ast.AnnAssign, ast.Yield,
         ast.YieldFrom, ast.NamedExpr)
# Names of functions that the document gives to parameters of other functions of the same file, too.
SHARED = {"branches.py": ["edition"]}
BARRED = """register mro elements open input law version_info attrgetter breakpoint compile copyright credits delattr dir eval
    exec exit gc globals help id importlib license locals methodcaller os quit super type vars sys""".split()


def trees():
    for path in sorted(FOLDER.glob("*.py")):
        text = path.read_text()
        yield path.name, text, ast.parse(text)


def parents(tree):
    return {child: node for node in ast.walk(tree) for child in ast.iter_child_nodes(node)}


def called(node):
    return node.func.id if isinstance(node, ast.Call) and isinstance(node.func, ast.Name) else None


def bound_names(tree):
    """The names that a file gives to parameters, variables, functions and classes, not to methods."""
    methods = [one for node in ast.walk(tree) if isinstance(node, ast.ClassDef) for one in node.body]
    for node in ast.walk(tree):
        if isinstance(node, ast.arg):
            yield node.arg
        elif isinstance(node, ast.Name) and not isinstance(node.ctx, ast.Load):
            yield node.id
        elif isinstance(node, (ast.FunctionDef, ast.ClassDef)) and node not in methods:
            yield node.name


class Language(unittest.TestCase):
    def test_files(self):
        for path in FOLDER.iterdir():
            if path.name != "__pycache__":
                self.assertRegex(path.name, r"^(__init__|[a-z_]+)\.py$")
        for name, text, _ in trees():
            lines = text.split("\n")
            self.assertLessEqual(len(lines) - 1, 399, name)
            self.assertTrue(all(len(line) <= 120 for line in lines), name)
            self.assertTrue(all(sign == "\n" or " " <= sign <= "~" for sign in text), name)

    def test_functions_are_small_and_statements_are_plain(self):
        for name, _, tree in trees():
            for node in ast.walk(tree):
                self.assertNotIsInstance(node, NEVER, (name, getattr(node, "lineno", 0)))
                if isinstance(node, ast.FunctionDef):
                    self.assertLessEqual(node.end_lineno - node.lineno + 1, 40, (name, node.name))
                    self.assertTrue(all(isinstance(one, ast.Name) and one.id == "property" for one in node.decorator_list))
                    self.assertTrue(not node.name.startswith("__") or node.name in DUNDERS, (name, node.name))
                if isinstance(node, ast.Call):
                    self.assertFalse(any(isinstance(one, ast.Starred) for one in node.args), (name, node.lineno))
                if isinstance(node, ast.Constant):
                    self.assertNotIsInstance(node.value, (float, complex), (name, node.lineno))

    def test_imports(self):
        for name, _, tree in trees():
            for node in ast.walk(tree):
                if isinstance(node, ast.ImportFrom):
                    self.assertIn(node, tree.body)
                    self.assertTrue(all(one.asname is None for one in node.names))
                    if node.module in LIBRARY:
                        self.assertLessEqual({one.name for one in node.names}, set(LIBRARY[node.module]), name)
                    else:
                        self.assertTrue(node.module.startswith("neverapart."), (name, node.module))
                        home = ast.parse((FOLDER / (node.module.split(".")[1] + ".py")).read_text())
                        own = [one.name for one in home.body if isinstance(one, (ast.FunctionDef, ast.ClassDef))]
                        self.assertTrue(all(one.name in own for one in node.names), (name, node.module))

    def test_imports_make_no_ring(self):
        needs = {name[:-3]: re.findall(r"^from neverapart\.(\w+)", text, re.M) for name, text, _ in trees()}
        while needs:
            free = [name for name in needs if not any(other in needs for other in needs[name])]
            self.assertTrue(free, needs)
            needs = {name: needs[name] for name in needs if name not in free}

    def test_names(self):
        for name, _, tree in trees():
            imports = [one.name for node in tree.body if isinstance(node, ast.ImportFrom) for one in node.names]
            classes = [node.name for node in tree.body if isinstance(node, ast.ClassDef)]
            functions = [node.name for node in tree.body if isinstance(node, ast.FunctionDef)]
            bound = list(bound_names(tree))
            self.assertEqual(len(set(imports + classes + functions)), len(imports + classes + functions), name)
            for one in bound:
                self.assertFalse(one in imports or one in BARRED or hasattr(builtins, one), (name, one))
                alone = bound.count(one) == 1 or one not in classes + functions
                self.assertTrue(alone or one in SHARED.get(name, []), (name, one))
            for node in ast.walk(tree):
                if isinstance(node, ast.Name) and isinstance(node.ctx, ast.Load):
                    self.assertNotEqual(node.id, "_", name)
                    if hasattr(builtins, node.id):
                        self.assertTrue(node.id in BUILTINS or node.id == "property", (name, node.id))

    def test_methods_attributes_and_identity(self):
        own, properties = set(), set()
        for _, _, tree in trees():
            for node in ast.walk(tree):
                if isinstance(node, ast.ClassDef):
                    for one in node.body:
                        if isinstance(one, ast.FunctionDef):
                            (properties if one.decorator_list else own).add(one.name)
        self.assertFalse(own & properties)
        for name, _, tree in trees():
            for node in ast.walk(tree):
                if isinstance(node, ast.Call) and isinstance(node.func, ast.Attribute):
                    self.assertIn(node.func.attr, own | set(METHODS), (name, node.lineno))
                    self.assertTrue(node.func.attr in own or not node.keywords, (name, node.lineno))
                if isinstance(node, ast.Attribute) and not isinstance(node.ctx, ast.Load):
                    self.assertNotIn(node.attr, properties | own | set(METHODS), (name, node.lineno))
                if isinstance(node, ast.Compare):
                    for operator, right in zip(node.ops, node.comparators):
                        if isinstance(operator, (ast.Is, ast.IsNot)):
                            self.assertIn(getattr(right, "value", right), (None, True, False), (name, node.lineno))

    def test_sets_stand_where_their_order_does_not_show(self):
        for name, _, tree in trees():
            above = parents(tree)
            for node in ast.walk(tree):
                if isinstance(node, (ast.SetComp, ast.Set)) or called(node) in ("set", "frozenset"):
                    around = above[node]
                    self.assertTrue(called(around) in ("sorted", "len") and not around.keywords, (name, node.lineno))

    def test_classes_are_asked_for_by_name_alone(self):
        for name, _, tree in trees():
            above = parents(tree)
            for node in ast.walk(tree):
                if isinstance(node, ast.Name) and node.id == "type":
                    call = above[node]
                    self.assertTrue(called(call) == "type" and isinstance(call.args[0], ast.Name), (name, node.lineno))
                    self.assertEqual(getattr(above[call], "attr", None), "__name__", (name, node.lineno))

    def test_super_is_called_for_one_of_its_methods(self):
        for name, _, tree in trees():
            above = parents(tree)
            for node in ast.walk(tree):
                if isinstance(node, ast.Name) and node.id == "super":
                    call = above[node]
                    read, used = above[call], above[above[call]]
                    self.assertTrue(isinstance(call, ast.Call) and not call.args and isinstance(used, ast.Call), (name, node.lineno))
                    self.assertTrue(isinstance(read, ast.Attribute) and (read.attr == "__init__" or read.attr[:2] != "__"), (name, node.lineno))

    def test_tables_at_module_level_are_only_read(self):
        for name, _, tree in trees():
            above = parents(tree)
            tables = [one.targets[0].id for one in tree.body if isinstance(one, ast.Assign) and isinstance(one.value, (ast.Dict, ast.List))]
            for node in ast.walk(tree):
                if isinstance(node, ast.Name) and node.id in tables and isinstance(node.ctx, ast.Load):
                    self.assertIsInstance(above[node], (ast.Compare, ast.Subscript), (name, node.lineno))

    def test_strings(self):
        for name, _, tree in trees():
            for node in ast.walk(tree):
                if isinstance(node, ast.Constant) and isinstance(node.value, str):
                    self.assertNotIn("%", node.value, (name, node.lineno))


if __name__ == "__main__":
    unittest.main()

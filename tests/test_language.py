"""The rules of ../shared/LANGUAGE.md that a look at the files can tell: the marks in brackets name them."""

import ast
import builtins
import os
import unittest

PACKAGE = os.path.join(os.path.dirname(os.path.dirname(os.path.abspath(__file__))), "behindboth")
NODES = """Module Expr ImportFrom alias FunctionDef arguments arg ClassDef Assign AugAssign Return If While For
Break Continue Pass Raise Assert Delete Try ExceptHandler Name Load Store Del Attribute Subscript Slice Starred
Constant Tuple List Dict Set ListComp DictComp SetComp GeneratorExp comprehension Call keyword Compare BoolOp
UnaryOp BinOp IfExp Lambda JoinedStr FormattedValue And Or Not USub Invert Add Sub Mult FloorDiv Mod Pow LShift
RShift BitAnd BitOr BitXor Eq NotEq Lt LtE Gt GtE Is IsNot In NotIn""".split()
BUILTINS = """len range enumerate zip min max sum abs sorted reversed int str bool bytes list tuple dict set
isinstance ord repr any all divmod ValueError KeyError""".split()
METHODS = """append clear copy count endswith extend find get index insert isalnum isalpha isdigit islower isspace
isupper items join keys ljust lower lstrip partition pop remove replace reverse rfind rjust rpartition rsplit
rstrip setdefault split splitlines startswith strip update upper values zfill bit_length add discard""".split()
BARRED = """register mro elements open input law version_info with_traceback add_note type typing enum Flag
Generic Protocol ABC namedtuple global eval exec compile vars dir id globals locals""".split()


def texts():
    found = {}
    for folder, _, names in os.walk(PACKAGE):
        for name in names:
            if not folder.endswith("__pycache__"):
                with open(os.path.join(folder, name), encoding="utf-8", newline="") as file:
                    found[os.path.relpath(os.path.join(folder, name), PACKAGE)] = file.read()
    return found


def trees():
    return {name[:-3]: ast.parse(text) for name, text in texts().items() if name.endswith(".py")}


def defined(tree):
    names = []
    for node in tree.body:
        if isinstance(node, (ast.FunctionDef, ast.ClassDef)):
            names.append(node.name)
        if isinstance(node, ast.Assign):
            names.extend(target.id for target in node.targets)
    return names


def imported(tree):
    return {node.module.split(".")[1]: [alias.name for alias in node.names]
            for node in tree.body if isinstance(node, ast.ImportFrom)}


def bound_inside(tree):
    """All parameters, local variables and nested functions of a file."""
    found = []
    for function in ast.walk(tree):
        if isinstance(function, (ast.FunctionDef, ast.Lambda)):
            for node in ast.walk(function):
                if isinstance(node, ast.arg):
                    found.append(node.arg)
                if isinstance(node, ast.Name) and isinstance(node.ctx, ast.Store):
                    found.append(node.id)
                if isinstance(node, ast.ExceptHandler) and node.name:
                    found.append(node.name)
                if isinstance(node, ast.FunctionDef) and node is not function:
                    found.append(node.name)
    return found


def classes():
    return [(name, node) for name, tree in trees().items() for node in tree.body if isinstance(node, ast.ClassDef)]


def methods(made):
    return [node.name for node in made.body if isinstance(node, ast.FunctionDef)]


def attributes(tree):
    """The attributes that are assigned anywhere in a file or a class."""
    return {node.attr for node in ast.walk(tree) if isinstance(node, ast.Attribute)
            and isinstance(node.ctx, ast.Store)}


class Language(unittest.TestCase):

    def test_files_and_characters(self):
        for name, text in texts().items():
            self.assertRegex(name, r"\A[a-z_0-9]+\.py\Z", "L1, L14")
            self.assertTrue(all(" " <= sign <= "~" or sign == "\n" for sign in text), f"L14 {name}")

    def test_sizes(self):
        for name, text in texts().items():
            lines = text.split("\n")
            self.assertLessEqual(len(lines), 399, f"L10 {name}")
            self.assertLessEqual(max(len(line) for line in lines), 120, f"L10 {name}")
            for node in ast.walk(ast.parse(text)):
                if isinstance(node, ast.FunctionDef):
                    self.assertLessEqual(node.end_lineno - node.lineno + 1, 40, f"L10 {name} {node.name}")

    def test_nodes(self):
        for name, tree in trees().items():
            for node in ast.walk(tree):
                self.assertIn(node.__class__.__name__, NODES, f"L6, L7 {name} {getattr(node, 'lineno', '')}")
                if isinstance(node, ast.FunctionDef):
                    self.assertEqual(node.decorator_list, [], f"L4 {name}")
                if isinstance(node, ast.Constant):
                    self.assertNotIsInstance(node.value, (float, complex), f"L7 {name}")

    def test_module_level(self):
        for name, tree in trees().items():
            for at, node in enumerate(tree.body):
                docstring = at == 0 and isinstance(node, ast.Expr) and isinstance(node.value, ast.Constant)
                allowed = (ast.ImportFrom, ast.FunctionDef, ast.ClassDef, ast.Assign)
                self.assertTrue(docstring or isinstance(node, allowed), f"L3 {name} {node.lineno}")
                if isinstance(node, ast.Assign):
                    self.assertEqual(len(node.targets), 1, f"L3 {name}")
                    self.assertIsInstance(node.targets[0], ast.Name, f"L3 {name}")
                    self.assertNotIsInstance(node.value, (ast.Name, ast.Call), f"L3 {name}")

    def test_imports(self):
        files = trees()
        for name, tree in files.items():
            for node in ast.walk(tree):
                if isinstance(node, ast.ImportFrom):
                    self.assertEqual((node.level, node.module.split(".")[0]), (0, "behindboth"), f"L2 {name}")
                    for alias in node.names:
                        self.assertIsNone(alias.asname, f"L2 {name}")
                        self.assertIn(alias.name, defined(files[node.module.split(".")[1]]), f"L16 {name}")
            for module, names in imported(tree).items():
                for used in names:
                    uses = [n for n in ast.walk(tree) if isinstance(n, ast.Name) and n.id == used]
                    self.assertTrue(uses, f"{name} imports {used} from {module} and does not use it")

    def test_no_circle_of_imports(self):
        rests = {name: list(imported(tree)) for name, tree in trees().items()}
        while rests:
            ready = [name for name, needs in rests.items() if not any(need in rests for need in needs)]
            self.assertTrue(ready, f"L16 {list(rests)}")
            rests = {name: needs for name, needs in rests.items() if name not in ready}

    def test_names(self):
        for name, tree in trees().items():
            taken = [one for names in imported(tree).values() for one in names]
            classes = [node.name for node in tree.body if isinstance(node, ast.ClassDef)]
            everywhere = bound_inside(tree) + defined(tree) + taken
            self.assertEqual(len(defined(tree) + taken), len(set(defined(tree) + taken)), f"L15 {name}")
            for one in everywhere:
                self.assertNotIn(one, dir(builtins), f"L15 {name}")
                self.assertNotIn(one, BARRED, f"L17 {name}")
            for one in bound_inside(tree):
                self.assertNotIn(one, taken + classes, f"L15 {name}")
            reads = [node.id for node in ast.walk(tree) if isinstance(node, ast.Name)]
            for one in reads:
                if one not in everywhere:
                    self.assertIn(one, BUILTINS, f"L8 {name}")

    def test_methods(self):
        own = [method for _, made in classes() for method in methods(made)]
        for name, tree in trees().items():
            for node in ast.walk(tree):
                if isinstance(node, ast.Call) and isinstance(node.func, ast.Attribute):
                    self.assertIn(node.func.attr, METHODS + own, f"L25 {name} {node.lineno}")

    def test_classes(self):
        builtin = {word for made in (str, int, list, dict, set, bytes) for word in dir(made)} - {"__init__"}
        for name, made in classes():
            self.assertEqual(made.decorator_list, [], f"L5 {name}")
            for node in made.body:
                docstring = isinstance(node, ast.Expr) and isinstance(node.value, ast.Constant)
                self.assertTrue(docstring or isinstance(node, ast.FunctionDef), f"L5 {name}")
            self.assertEqual(len(methods(made)), len(set(methods(made))), f"L18 {name}")
            self.assertEqual(attributes(made) & set(methods(made)), set(), f"L18 {name}")
            for method in methods(made):
                self.assertNotIn(method, builtin, f"L26 {name}")
                self.assertTrue(method == "__init__" or not method.startswith("__"), f"L5 {name}")
            for attribute in attributes(made):
                self.assertNotIn(attribute, builtin, f"L26 {name}")

    def test_attributes_are_assigned_by_some_class(self):
        known = {word for _, made in classes() for word in attributes(made) | set(methods(made))}
        for name, tree in trees().items():
            for node in ast.walk(tree):
                if isinstance(node, ast.Attribute) and isinstance(node.ctx, ast.Load):
                    self.assertIn(node.attr, known | set(METHODS) | {"__class__", "__name__"}, f"L18 {name}")

    def test_strings(self):
        for name, tree in trees().items():
            for node in ast.walk(tree):
                if isinstance(node, ast.Constant) and isinstance(node.value, str):
                    self.assertNotIn("%", node.value, f"L27 {name}")

    def test_is_stands_beside_none_true_and_false(self):
        for name, tree in trees().items():
            for node in ast.walk(tree):
                if isinstance(node, ast.Compare):
                    for sign, other in zip(node.ops, node.comparators):
                        if isinstance(sign, (ast.Is, ast.IsNot)):
                            self.assertIsInstance(other, ast.Constant, f"L20 {name} {node.lineno}")

    def test_loops_do_not_go_over_sets(self):
        for name, tree in trees().items():
            for node in ast.walk(tree):
                if isinstance(node, (ast.For, ast.comprehension)):
                    self.assertNotIsInstance(node.iter, (ast.Set, ast.SetComp), f"L24 {name}")


if __name__ == "__main__":
    unittest.main()

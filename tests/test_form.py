"""The form of the package: what of the rules of LANGUAGE.md can be seen from the text."""

import ast
import builtins
import os
import re
import unittest

PACKAGE = os.path.join(os.path.dirname(os.path.dirname(os.path.abspath(__file__))), "memoryviews")
LIBRARY = {"math": {"factorial", "gcd"}, "itertools": {"combinations", "permutations", "product"}}
BUILTINS = {
    "len", "range", "enumerate", "zip", "min", "max", "sum", "abs", "sorted", "reversed", "int", "str", "bool", "list",
    "tuple", "dict", "set", "isinstance", "any", "all", "ValueError", "super",
}
METHODS = {
    "append", "clear", "copy", "count", "endswith", "extend", "find", "get", "index", "insert", "items", "join", "keys",
    "pop", "remove", "replace", "reverse", "setdefault", "split", "startswith", "strip", "update", "values",
}
DUNDERS = {"__init__", "__eq__"}
NEVER = {
    "register", "mro", "elements", "open", "input", "law", "version_info", "with_traceback", "add_note", "attrgetter",
    "breakpoint", "builtins", "compile", "copyright", "credits", "delattr", "dir", "eval", "exec", "exit", "gc", "globals",
    "help", "id", "importlib", "license", "locals", "methodcaller", "os", "quit", "sys", "vars",
}
WORDS = {
    "type", "typing", "typing_extensions", "enum", "Enum", "IntEnum", "StrEnum", "Flag", "IntFlag", "Generic", "Protocol",
    "ABC", "ABCMeta", "namedtuple", "NamedTuple", "TypedDict", "TYPE_CHECKING", "abstractmethod", "dataclass", "overload",
    "contextmanager",
}
NO_ATTRIBUTES = {
    "items", "keys", "values", "pop", "update", "append", "clear", "extend", "insert", "remove", "reverse", "setdefault",
    "sort", "args", "encode", "decode", "hex", "fromhex", "format",
}
STATEMENTS = (
    ast.Assign, ast.AugAssign, ast.If, ast.While, ast.For, ast.Return, ast.Break, ast.Continue, ast.Pass, ast.Raise,
    ast.Try, ast.Expr, ast.FunctionDef, ast.Assert, ast.Delete,
)


def texts():
    found = {}
    for name in sorted(os.listdir(PACKAGE)):
        if name != "__pycache__":
            with open(os.path.join(PACKAGE, name), "rb") as file:
                found[name] = file.read()
    return found


TEXTS = texts()
TREES = {name: ast.parse(text) for name, text in TEXTS.items()}


def nodes(kind):
    """All nodes of a kind, each with the name of its file."""
    return [(name, node) for name, tree in TREES.items() for node in ast.walk(tree) if isinstance(node, kind)]


def with_parents():
    parents = {}
    for tree in TREES.values():
        for node in ast.walk(tree):
            for child in ast.iter_child_nodes(node):
                parents[child] = node
    return parents


PARENTS = with_parents()


def bound_at_top(tree):
    """All names bound at module level, each as often as it is bound."""
    names = []
    for node in tree.body:
        if isinstance(node, ast.ImportFrom):
            names += [alias.name for alias in node.names]
        elif isinstance(node, (ast.FunctionDef, ast.ClassDef)):
            names.append(node.name)
        elif isinstance(node, ast.Assign):
            names += [target.id for target in node.targets]
    return names


def bound_inside(function):
    """All parameters and variables of a function."""
    names = []
    for node in ast.walk(function):
        if isinstance(node, ast.arg):
            names.append(node.arg)
        if isinstance(node, ast.Name) and isinstance(node.ctx, ast.Store):
            names.append(node.id)
        if isinstance(node, ast.ExceptHandler) and node.name:
            names.append(node.name)
    return names


class TestForm(unittest.TestCase):

    def test_files(self):
        for name, text in TEXTS.items():
            self.assertRegex(name, r"^(__init__|[a-z][a-z0-9_]*)\.py$")
            lines = text.decode("ascii").split("\n")
            self.assertEqual(lines[-1], "", name)
            self.assertLessEqual(len(lines) - 1, 399, name)
            for at, line in enumerate(lines):
                self.assertLessEqual(len(line), 120, (name, at + 1))
                self.assertTrue(all(" " <= sign <= "~" for sign in line), (name, at + 1))
                self.assertEqual(line, line.rstrip(), (name, at + 1))

    def test_imports(self):
        imports = {}
        for name, tree in TREES.items():
            behind = False
            for node in tree.body:
                if isinstance(node, ast.ImportFrom):
                    self.assertFalse(behind, name)
                else:
                    behind = not (isinstance(node, ast.Expr) and node is tree.body[0])
        for name, node in nodes((ast.Import, ast.ImportFrom)):
            self.assertIsInstance(node, ast.ImportFrom, name)
            self.assertEqual([node.level, [alias.asname for alias in node.names if alias.asname]], [0, []], name)
            if node.module in LIBRARY:
                self.assertTrue({alias.name for alias in node.names} <= LIBRARY[node.module], name)
                continue
            self.assertRegex(node.module, r"^memoryviews\.[a-z_]+$")
            file = node.module.split(".")[1] + ".py"
            own = [part.name if hasattr(part, "name") else part.targets[0].id for part in TREES[file].body
                   if isinstance(part, (ast.FunctionDef, ast.ClassDef, ast.Assign))]
            for alias in node.names:
                self.assertIn(alias.name, own, (name, file))
            imports.setdefault(name, set()).add(file)
        left = dict(imports)
        while left:
            free = [name for name in left if not left[name] & set(left)]
            self.assertTrue(free, left)
            for name in free:
                del left[name]

    def test_all_imports_are_used(self):
        for name, tree in TREES.items():
            used = {node.id for node in ast.walk(tree) if isinstance(node, ast.Name)}
            for node in tree.body:
                if isinstance(node, ast.ImportFrom):
                    for alias in node.names:
                        self.assertIn(alias.name, used, name)

    def test_all_functions_are_used_or_listed(self):
        used = {node.id for _, node in nodes(ast.Name)} | {alias.name for _, node in nodes(ast.ImportFrom)
                                                           for alias in node.names}
        with open(os.path.join(os.path.dirname(__file__), "test_conventions.py"), encoding="utf-8") as file:
            listed = file.read()
        for name, tree in TREES.items():
            for node in tree.body:
                if isinstance(node, ast.FunctionDef):
                    self.assertTrue(node.name in used or node.name + "(" in listed, (name, node.name))

    def test_module_level(self):
        for name, tree in TREES.items():
            self.assertIsNotNone(ast.get_docstring(tree), name)
            for node in tree.body[1:]:
                self.assertIsInstance(node, (ast.ImportFrom, ast.FunctionDef, ast.ClassDef, ast.Assign), name)
                if isinstance(node, ast.Assign):
                    self.assertEqual(len(node.targets), 1, name)
                    self.assertIsInstance(node.targets[0], ast.Name, name)
                    for part in ast.walk(node.value):
                        self.assertIsInstance(part, (ast.Constant, ast.Tuple, ast.List, ast.Dict, ast.Name, ast.Load), name)
                        if isinstance(part, (ast.Tuple, ast.List)):
                            self.assertFalse([item for item in part.elts if isinstance(item, (ast.List, ast.Dict))])
                        if isinstance(part, ast.Dict):
                            self.assertFalse([item for item in part.values if isinstance(item, (ast.List, ast.Dict))])
            names = bound_at_top(tree)
            self.assertEqual(len(names), len(set(names)), name)

    def test_functions(self):
        for name, node in nodes((ast.FunctionDef, ast.ClassDef)):
            self.assertEqual(node.decorator_list, [], name)
            if not node.name.startswith("__"):
                self.assertIsNotNone(ast.get_docstring(node), (name, node.name))
        for name, node in nodes(ast.FunctionDef):
            self.assertLessEqual(node.end_lineno - node.lineno + 1, 40, (name, node.name))
            self.assertIsNone(node.returns)
            for argument in node.args.args:
                self.assertIsNone(argument.annotation)
            self.assertFalse(node.args.vararg or node.args.kwarg or node.args.kwonlyargs or node.args.posonlyargs)
        for name, node in nodes((ast.AsyncFunctionDef, ast.Yield, ast.YieldFrom, ast.Await, ast.Global, ast.Nonlocal,
                                 ast.With, ast.Match, ast.AnnAssign, ast.GeneratorExp, ast.Starred)):
            self.fail((name, node.lineno))
        for name, node in nodes(ast.stmt):
            if not isinstance(node, (ast.ImportFrom, ast.ClassDef)):
                self.assertIsInstance(node, STATEMENTS, name)

    def test_classes(self):
        for name, node in nodes(ast.ClassDef):
            self.assertIn(node, TREES[name].body)
            methods = [part.name for part in node.body if isinstance(part, ast.FunctionDef)]
            self.assertEqual(len(methods), len(set(methods)))
            for part in node.body:
                if not isinstance(part, ast.FunctionDef):
                    self.assertTrue(isinstance(part, ast.Expr) and isinstance(part.value, ast.Constant), (name, node.name))
            for method in methods:
                if method.startswith("__"):
                    self.assertIn(method, DUNDERS)
            attributes = {part.attr for part in ast.walk(node) if isinstance(part, ast.Attribute)
                          and isinstance(part.ctx, ast.Store)}
            self.assertFalse(attributes & set(methods), name)
            self.assertFalse(attributes & NO_ATTRIBUTES, name)

    def test_values(self):
        for name, node in nodes(ast.Constant):
            self.assertIsInstance(node.value, (int, str, bool, type(None)), name)
            if isinstance(node.value, str):
                self.assertNotRegex(node.value, r"%|__|\\")
        for name, node in nodes(ast.FormattedValue):
            self.assertIsInstance(node.value, (ast.Name, ast.Subscript), (name, node.lineno))
            self.assertEqual((node.conversion, node.format_spec), (-1, None), (name, node.lineno))
        for name, node in nodes((ast.Div, ast.Pow, ast.Mod, ast.MatMult)):
            self.fail(name)
        for name, node in nodes(ast.Compare):
            for sign, right in zip(node.ops, node.comparators):
                if isinstance(sign, (ast.Is, ast.IsNot)):
                    self.assertIsInstance(right, ast.Constant, (name, node.lineno))
        for name, node in nodes(ast.Set):
            self.fail((name, node.lineno))
        for name, node in nodes(ast.SetComp):
            parent = PARENTS[node]
            self.assertTrue(isinstance(parent, ast.Call) and parent.func.id in ("len", "sorted"), (name, node.lineno))
            self.assertEqual(parent.keywords, [])

    def test_names(self):
        # doctest binds _ among the builtins
        known = set(dir(builtins)) - {"_"}
        for name, tree in TREES.items():
            barred = {alias.name for node in tree.body if isinstance(node, ast.ImportFrom) for alias in node.names}
            barred |= {node.name for node in tree.body if isinstance(node, ast.ClassDef)}
            for node in ast.walk(tree):
                if isinstance(node, (ast.FunctionDef, ast.Lambda)):
                    inside = set(bound_inside(node))
                    self.assertFalse(inside & barred, (name, node.lineno))
                    self.assertFalse(inside & known, (name, node.lineno))
                    self.assertFalse(inside & NEVER, (name, node.lineno))
                    for word in inside - {"_"}:
                        self.assertRegex(word, r"^[a-z][a-z0-9_]*$")
                if isinstance(node, ast.Name) and node.id == "_":
                    self.assertIsInstance(node.ctx, ast.Store, (name, node.lineno))
                if isinstance(node, (ast.FunctionDef, ast.ClassDef)):
                    self.assertFalse({node.name} & (known | NEVER), (name, node.name))
                if isinstance(node, ast.Attribute):
                    self.assertNotIn(node.attr, NEVER)

    def test_words(self):
        for name, tree in TREES.items():
            docs = {id(node.value) for node in ast.walk(tree) if isinstance(node, ast.Expr)}
            words = {node.id for node in ast.walk(tree) if isinstance(node, ast.Name)}
            words |= {node.attr for node in ast.walk(tree) if isinstance(node, ast.Attribute)}
            for node in ast.walk(tree):
                if isinstance(node, ast.Constant) and isinstance(node.value, str) and id(node) not in docs:
                    words |= set(re.findall(r"\w+", node.value))
            self.assertFalse(words & WORDS, name)

    def test_calls(self):
        own = {node.name: node for _, node in nodes((ast.FunctionDef, ast.ClassDef))}
        for name, node in nodes(ast.Name):
            if isinstance(node.ctx, ast.Load) and node.id in set(dir(builtins)):
                self.assertIn(node.id, BUILTINS, (name, node.lineno))
                parent = PARENTS[node]
                right = isinstance(parent, ast.Call) or node.id in ("ValueError", "list", "tuple", "dict", "int", "str", "bool")
                self.assertTrue(right, (name, node.lineno))
        for name, node in nodes(ast.Call):
            if isinstance(node.func, ast.Attribute):
                method = node.func.attr
                inner = isinstance(node.func.value, ast.Call) and getattr(node.func.value.func, "id", "") == "super"
                self.assertTrue(method in METHODS or method in own or inner, (name, method))
                self.assertEqual(node.keywords, [], (name, node.lineno))
            elif isinstance(node.func, ast.Name) and node.func.id in BUILTINS:
                for keyword in node.keywords:
                    self.assertIn((node.func.id, keyword.arg), (("sorted", "key"), ("min", "key")))
                if node.func.id in ("any", "all", "sum"):
                    self.assertIsInstance(node.args[0], (ast.ListComp, ast.Call, ast.Name), (name, node.lineno))

    def test_calls_pass_what_functions_take(self):
        takes = {}
        for _, tree in TREES.items():
            for node in tree.body:
                if isinstance(node, ast.FunctionDef):
                    many = len(node.args.args)
                    takes.setdefault(node.name, set()).update(range(many - len(node.args.defaults), many + 1))
        for name, node in nodes(ast.Call):
            if isinstance(node.func, ast.Name) and node.func.id in takes:
                self.assertIn(len(node.args) + len(node.keywords), takes[node.func.id], (name, node.lineno))

    def test_errors(self):
        own = {node.name for node in TREES["errors.py"].body if isinstance(node, ast.ClassDef)}
        for name, node in nodes(ast.ExceptHandler):
            self.assertIn(node.type.id, own, name)
        for name, node in nodes(ast.Raise):
            self.assertTrue(isinstance(node.exc, ast.Call) and node.exc.func.id in own, (name, node.lineno))
            for argument in node.exc.args:
                if node.exc.func.id not in ("BadRun", "BadText"):
                    self.assertIsInstance(argument.value, str)

    def test_loops_do_not_change_what_they_go_over(self):
        changing = {"append", "extend", "insert", "pop", "remove", "clear", "update", "setdefault", "reverse"}
        for name, loop in nodes(ast.For):
            over = {node.id for node in ast.walk(loop.iter) if isinstance(node, ast.Name)}
            for node in ast.walk(ast.Module(body=loop.body, type_ignores=[])):
                if isinstance(node, ast.Call) and isinstance(node.func, ast.Attribute) and node.func.attr in changing:
                    owner = node.func.value
                    while isinstance(owner, (ast.Subscript, ast.Attribute)):
                        owner = owner.value
                    self.assertNotIn(getattr(owner, "id", None), over, (name, node.lineno))
                if isinstance(node, (ast.Assign, ast.AugAssign)):
                    for target in node.targets if isinstance(node, ast.Assign) else [node.target]:
                        if isinstance(target, ast.Subscript):
                            self.assertNotIn(getattr(target.value, "id", None), over, (name, node.lineno))

    def test_names_in_comprehensions(self):
        for name, function in nodes(ast.FunctionDef):
            for outer in ast.walk(function):
                if not isinstance(outer, (ast.ListComp, ast.SetComp, ast.DictComp)):
                    continue
                for inner in ast.walk(outer):
                    if inner is not outer and isinstance(inner, (ast.ListComp, ast.SetComp, ast.DictComp)):
                        taken = {node.id for part in inner.generators for node in ast.walk(part.target)
                                 if isinstance(node, ast.Name)} - {"_"}
                        around = set(bound_inside(function)) - taken
                        stores = [node.id for node in ast.walk(function)
                                  if isinstance(node, ast.Name) and isinstance(node.ctx, ast.Store) and node.id in taken]
                        self.assertEqual(len(stores), len(taken), (name, inner.lineno, around))


if __name__ == "__main__":
    unittest.main()

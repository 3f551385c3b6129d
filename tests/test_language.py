"""Looks at the package's files for what the rules of the language let be seen by a program."""

import ast
import builtins
import os
import re
import unittest

HERE = os.path.join(os.path.dirname(os.path.dirname(os.path.abspath(__file__))), "echohall")
BUILTINS = set(
    "len range enumerate zip min max sum abs sorted reversed int str bool bytes list tuple dict set isinstance ord "
    "repr any all divmod iter next super ValueError KeyError IndexError TypeError".split()
)
METHODS = set(
    "append clear copy count endswith extend find get index insert isalnum isalpha isdigit islower isspace isupper "
    "items join keys ljust lower lstrip partition pop remove replace reverse rfind rjust rpartition rsplit rstrip "
    "setdefault split splitlines startswith strip update upper values zfill bit_length add discard sort".split()
)
NEVER = set("register mro elements open input version_info with_traceback add_note".split())
NOT_BOUND = set(
    "attrgetter breakpoint builtins compile copyright credits delattr dir eval exec exit gc getattr globals hasattr "
    "help id importlib license locals methodcaller os quit setattr super type vars sys".split()
)
WORDS = (
    "type typing typing_extensions enum Enum IntEnum StrEnum Flag IntFlag Generic Protocol ABC ABCMeta namedtuple "
    "NamedTuple TypedDict TYPE_CHECKING abstractmethod"
).split()
EAGER = set("list tuple dict sorted sum min max any all join next".split())
ON_THE_SPOT = set("list tuple dict sorted sum any all enumerate zip min max join iter".split())


def parents_of(tree):
    return {child: node for node in ast.walk(tree) for child in ast.iter_child_nodes(node)}


def called(node):
    """The name by which a call goes."""
    if not isinstance(node, ast.Call):
        return None
    return node.func.id if isinstance(node.func, ast.Name) else getattr(node.func, "attr", None)


def bound_names(function):
    for node in ast.walk(function):
        if isinstance(node, ast.arg):
            yield node.arg
        elif isinstance(node, ast.Name) and isinstance(node.ctx, ast.Store):
            yield node.id


class Language(unittest.TestCase):
    @classmethod
    def setUpClass(cls):
        cls.texts = {}
        for name in sorted(os.listdir(HERE)):
            if name == "__pycache__":
                continue
            with open(os.path.join(HERE, name), encoding="utf-8") as file:
                cls.texts[name] = file.read()
        cls.trees = {name: ast.parse(text) for name, text in cls.texts.items()}

    def nodes(self, *kinds):
        for name, tree in self.trees.items():
            for node in ast.walk(tree):
                if isinstance(node, kinds):
                    yield f"{name}:{getattr(node, 'lineno', 0)}", node

    def test_files(self):
        self.assertIn("__init__.py", self.texts)
        for name, text in self.texts.items():
            self.assertRegex(name, r"\A[a-z_]+\.py\Z")
            self.assertLessEqual(text.count("\n"), 400, name)
            self.assertRegex(text, r"\A[\n -~]*\Z", name)
            self.assertNotIn("%", text, name)
            for row in text.split("\n"):
                self.assertLessEqual(len(row), 120, name)
            for word in WORDS:
                self.assertIsNone(re.search(rf"\b{word}\b", text), (name, word))
            for part in ("dataclass", "overload", "contextmanager"):
                self.assertNotIn(part, text, name)

    def test_module_level(self):
        for name, tree in self.trees.items():
            bound = []
            for node in tree.body:
                self.assertIsInstance(
                    node, (ast.Expr, ast.ImportFrom, ast.FunctionDef, ast.ClassDef, ast.Assign), (name, node.lineno)
                )
                if isinstance(node, ast.Expr):
                    self.assertIsInstance(node.value, ast.Constant)
                elif isinstance(node, ast.ImportFrom):
                    bound += [alias.asname or alias.name for alias in node.names]
                elif isinstance(node, ast.Assign):
                    bound += [target.id for target in node.targets]
                else:
                    bound.append(node.name)
            self.assertEqual(len(bound), len(set(bound)), name)

    def test_imports(self):
        needs = {}
        for name, tree in self.trees.items():
            needs[name] = []
            for node in ast.walk(tree):
                self.assertNotIsInstance(node, ast.Import, name)
                if isinstance(node, ast.ImportFrom):
                    self.assertEqual(node.level, 0)
                    self.assertRegex(node.module, r"\Aechohall\.[a-z_]+\Z")
                    there = node.module.split(".")[1] + ".py"
                    needs[name].append(there)
                    defined = [getattr(row, "name", None) for row in self.trees[there].body]
                    for row in self.trees[there].body:
                        if isinstance(row, ast.Assign):
                            defined.append(row.targets[0].id)
                    for alias in node.names:
                        self.assertIn(alias.name, defined, name)
        while needs:
            free = [name for name in needs if not any(other in needs for other in needs[name])]
            self.assertTrue(free, "files import from one another in a ring")
            for name in free:
                del needs[name]

    def test_all_that_is_imported_is_used(self):
        for name, tree in self.trees.items():
            used = {node.id for node in ast.walk(tree) if isinstance(node, ast.Name)}
            for node in ast.walk(tree):
                if isinstance(node, ast.ImportFrom):
                    for alias in node.names:
                        self.assertIn(alias.asname or alias.name, used, name)

    def test_statements_and_expressions(self):
        barred = (
            ast.Global,
            ast.AsyncFunctionDef,
            ast.AsyncFor,
            ast.AsyncWith,
            ast.Await,
            ast.Div,
            ast.MatMult,
            ast.Mod,
            ast.AnnAssign,
        )
        for where, node in self.nodes(ast.AST):
            self.assertNotIsInstance(node, barred, where)
            if isinstance(node, ast.Constant):
                self.assertNotIsInstance(node.value, (float, complex), where)
            if isinstance(node, ast.Compare):
                for sign, right in zip(node.ops, node.comparators):
                    if isinstance(sign, (ast.Is, ast.IsNot)):
                        self.assertIsInstance(right, ast.Constant, where)
                        self.assertIn(right.value, (None, True, False), where)
            if isinstance(node, ast.BinOp) and isinstance(node.op, ast.Pow):
                self.assertIsInstance(node.right, ast.Constant, where)
                self.assertIn(node.right.value, range(65), where)
            if isinstance(node, ast.AugAssign):
                self.assertNotIsInstance(node.op, ast.Pow, where)
            if isinstance(node, ast.Raise) and node.exc is not None:
                self.assertIsInstance(node.exc, ast.Call, where)
            if isinstance(node, ast.ExceptHandler):
                self.assertIsInstance(node.type, (ast.Name, ast.Tuple), where)

    def test_size_of_functions(self):
        for where, node in self.nodes(ast.FunctionDef):
            self.assertLessEqual(node.end_lineno - node.lineno + 1, 40, where)
            self.assertEqual(node.args.posonlyargs, [], where)

    def test_names(self):
        for where, node in self.nodes(ast.Name, ast.arg, ast.FunctionDef, ast.ClassDef, ast.Attribute, ast.keyword):
            name = {"Name": "id", "Attribute": "attr", "FunctionDef": "name", "ClassDef": "name"}.get(
                type(node).__name__, "arg"
            )
            name = getattr(node, name)
            if name not in ("__init__", "__len__", "__eq__"):
                self.assertRegex(name, r"\A[A-Za-z][A-Za-z0-9_]*\Z", where)
            self.assertNotIn(name, NEVER, where)

    def test_bound_names_hide_no_builtin_class_or_import(self):
        for name, tree in self.trees.items():
            taken = set(dir(builtins)) | NOT_BOUND
            for node in tree.body:
                if isinstance(node, ast.ClassDef):
                    taken.add(node.name)
                elif isinstance(node, ast.ImportFrom):
                    taken |= {alias.asname or alias.name for alias in node.names}
            for node in ast.walk(tree):
                if isinstance(node, ast.FunctionDef):
                    self.assertEqual(sorted(set(bound_names(node)) & taken), [], (name, node.name))

    def test_builtins(self):
        for name, tree in self.trees.items():
            own = set(bound_names(tree)) | {getattr(node, "name", None) for node in ast.walk(tree)}
            for node in ast.walk(tree):
                if isinstance(node, ast.ImportFrom):
                    own |= {alias.asname or alias.name for alias in node.names}
            for node in ast.walk(tree):
                if isinstance(node, ast.Name) and node.id not in own:
                    self.assertIn(node.id, BUILTINS, (name, node.lineno))

    def test_methods_and_attributes(self):
        methods, stored = set(), set()
        for _, node in self.nodes(ast.ClassDef):
            methods |= {row.name for row in node.body if isinstance(row, ast.FunctionDef)}
        for _, node in self.nodes(ast.Attribute):
            if isinstance(node.ctx, ast.Store):
                stored.add(node.attr)
        self.assertEqual(methods & stored, set())
        for name, tree in self.trees.items():
            above = parents_of(tree)
            for node in ast.walk(tree):
                if isinstance(node, ast.Attribute):
                    call = isinstance(above[node], ast.Call) and above[node].func == node
                    self.assertIn(node.attr, METHODS | methods if call else stored, (name, node.lineno))

    def test_no_function_is_a_generator(self):
        self.assertEqual([where for where, _ in self.nodes(ast.Yield, ast.YieldFrom)], [])

    def test_sets_and_generators_stand_where_they_may(self):
        for name, tree in self.trees.items():
            above = parents_of(tree)
            for node in ast.walk(tree):
                up = above.get(node)
                if isinstance(node, ast.GeneratorExp):
                    self.assertIn(called(up), EAGER, (name, node.lineno))
                if isinstance(node, (ast.SetComp, ast.Set)) or called(node) == "set":
                    good = called(up) in ("sorted", "len") or isinstance(up, ast.Compare)
                    self.assertTrue(good, (name, node.lineno))
                if called(node) in ("zip", "enumerate", "reversed", "range", "items", "keys", "values"):
                    good = called(up) in ON_THE_SPOT or isinstance(up, (ast.For, ast.comprehension))
                    self.assertTrue(good, (name, node.lineno))


if __name__ == "__main__":
    unittest.main()

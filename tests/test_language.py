"""The rules of ../shared/LANGUAGE.md that can be seen in the files of the package, by their numbers."""

import ast
import builtins
import os
import unittest

TOP = os.path.dirname(os.path.dirname(os.path.abspath(__file__)))
PACKAGE = os.path.join(TOP, "throwshelves")
LIBRARY = {"heapq", "math", "itertools"}
BUILTINS = set("""len range enumerate zip min max sum abs sorted reversed int str bool bytes list tuple dict set isinstance
    ord repr any all divmod iter next staticmethod classmethod property ValueError TypeError""".split())
STATEMENTS = (ast.Assign, ast.AugAssign, ast.AnnAssign, ast.If, ast.While, ast.For, ast.Return, ast.Break, ast.Continue,
              ast.Pass, ast.Raise, ast.Assert, ast.Delete, ast.Expr, ast.Try, ast.FunctionDef, ast.ClassDef, ast.ImportFrom)
METHODS = set("""append clear copy count endswith extend find get index insert isalnum isalpha isdigit islower isspace
    isupper items join keys ljust lower lstrip partition pop remove replace reverse rfind rjust rpartition rsplit rstrip
    setdefault split splitlines startswith strip update upper values zfill bit_length""".split())
MODIFYING = {"append", "clear", "extend", "insert", "pop", "remove", "reverse", "setdefault", "update", "sort", "add",
             "discard"}
DOUBLE = set("""__init__ __eq__ __repr__ __str__ __len__ __call__ __iter__ __getitem__ __contains__ __add__ __and__
    __invert__""".split())
BARRED = set("""register mro elements open input law version_info with_traceback add_note attrgetter breakpoint builtins
    compile copyright credits delattr dir eval exec exit gc getattr globals hasattr help id importlib license locals
    methodcaller os quit setattr super type vars sys""".split())
WORDS = """typing enum Enum Generic Protocol ABC namedtuple dataclass overload contextmanager abstractmethod""".split()


def files():
    return sorted(os.listdir(PACKAGE))


def read(name):
    with open(os.path.join(PACKAGE, name), encoding="ascii") as text:
        return text.read()


TREES = {name: ast.parse(read(name)) for name in files() if name.endswith(".py")}


def nodes(kind, tree=None):
    for name, whole in TREES.items():
        for node in ast.walk(whole if tree is None else tree):
            if isinstance(node, kind):
                yield name, node
        if tree is not None:
            return


def bound_in(function):
    """All names that a function binds: parameters, targets, nested functions."""
    every = function.args.posonlyargs + function.args.args + function.args.kwonlyargs
    names = {one.arg for one in every + [function.args.vararg, function.args.kwarg] if one is not None}
    for node in ast.walk(function):
        if isinstance(node, ast.Name) and isinstance(node.ctx, ast.Store):
            names.add(node.id)
        elif isinstance(node, ast.FunctionDef) and node is not function:
            names.add(node.name)
    return names


def functions():
    """Where each function stands: its file, its class or None, and itself."""
    for name, tree in TREES.items():
        for node in tree.body:
            if isinstance(node, ast.FunctionDef):
                yield name, None, node
            elif isinstance(node, ast.ClassDef):
                for inner in node.body:
                    if isinstance(inner, ast.FunctionDef):
                        yield name, node, inner


def called_in(function):
    """The names of all functions and methods that a function calls."""
    names = set()
    for node in ast.walk(function):
        if isinstance(node, ast.Call):
            names.add(node.func.attr if isinstance(node.func, ast.Attribute) else node.func.id)
    return names


def is_bound_to_change_nothing(kind, function):
    """Whether it is an operator, a property or the like of a class, which change nothing."""
    if kind is None:
        return False
    if any(isinstance(one, ast.Name) and one.id == "property" for one in function.decorator_list):
        return True
    return function.name.startswith("__") and function.name not in ("__init__", "__call__")


def unchanging():
    """The operators, properties and the like, and all functions and methods that they reach, told by their names."""
    every = [(name, kind, function) for name, kind, function in functions()]
    reached = [one for one in every if is_bound_to_change_nothing(one[1], one[2])]
    names = {name for one in reached for name in called_in(one[2])}
    more = set(names)
    while more:
        more = {name for _, _, function in every if function.name in more for name in called_in(function)} - names
        names |= more
    properties = {function.name for _, kind, function in every if is_bound_to_change_nothing(kind, function)}
    return [one for one in every if one in reached or one[2].name in names | properties]


def is_generator(function):
    return any(isinstance(node, (ast.Yield, ast.YieldFrom)) for node in ast.walk(function))


class Files(unittest.TestCase):
    def test_l1_l14_files(self):
        self.assertLessEqual(len(files()), 100)
        for name in files():
            if name == "__pycache__":
                continue
            self.assertRegex(name, r"\A([a-z0-9]+|__init__)\.py\Z")
            self.assertFalse(name[:-3] in vars(builtins) or name.startswith(("law_", "test", "site")))

    def test_l10_l14_sizes_and_characters(self):
        for name in TREES:
            lines = read(name).split("\n")
            self.assertLessEqual(len(lines), 400, name)
            for line in lines:
                self.assertLessEqual(len(line), 120, name)
                self.assertTrue(all(" " <= sign <= "~" for sign in line), name)
        for name, _, function in functions():
            self.assertLessEqual(function.end_lineno - function.lineno + 1, 40, (name, function.name))

    def test_l2_l16_imports(self):
        reached = {}
        for name, tree in TREES.items():
            reached[name] = []
            for node in ast.walk(tree):
                self.assertNotIsInstance(node, ast.Import)
                if not isinstance(node, ast.ImportFrom):
                    continue
                self.assertIn(node, tree.body)
                self.assertEqual((node.level, [one.asname for one in node.names]), (0, [None] * len(node.names)))
                if node.module in LIBRARY:
                    continue
                top, _, module = node.module.partition(".")
                self.assertEqual(top, "throwshelves")
                reached[name].append(module + ".py")
                defined = {one.name for one in TREES[module + ".py"].body
                           if isinstance(one, (ast.FunctionDef, ast.ClassDef))}
                self.assertLessEqual({one.name for one in node.names}, defined, name)
        done = set()
        while len(done) < len(reached):
            more = {name for name in reached if set(reached[name]) <= done} - done
            self.assertTrue(more, "files import from each other")
            done |= more

    def test_l3_module_level(self):
        for name, tree in TREES.items():
            for node in tree.body:
                if isinstance(node, ast.Assign):
                    ast.literal_eval(node.value)
                    self.assertIsInstance(node.targets[0], ast.Name)
                elif isinstance(node, ast.Expr):
                    self.assertIsInstance(node.value.value, str)
                else:
                    self.assertIsInstance(node, (ast.ImportFrom, ast.FunctionDef, ast.ClassDef), name)

    def test_l17_words(self):
        for name in TREES:
            text = read(name)
            for word in WORDS:
                self.assertNotRegex(text, rf"\b{word}\b")
            self.assertNotIn("(type)", text)
            self.assertNotIn("Meta", text)


class Code(unittest.TestCase):
    def test_l6_statements(self):
        for name, node in nodes(ast.stmt):
            self.assertIsInstance(node, STATEMENTS, name)

    def test_l7_values(self):
        for name, node in nodes((ast.Constant, ast.Div, ast.Pow, ast.Set, ast.SetComp, ast.GeneratorExp, ast.Lambda,
                                 ast.JoinedStr, ast.NamedExpr, ast.DictComp)):
            self.assertIsInstance(node, ast.Constant, name)
            self.assertNotIsInstance(node.value, (float, complex, bytes))
            if isinstance(node.value, str):
                self.assertNotIn("%", node.value)

    def test_l8_builtins(self):
        for name, tree in TREES.items():
            known = {one.id for _, one in nodes(ast.Name, tree) if isinstance(one.ctx, ast.Store)}
            known |= {one.arg for _, one in nodes(ast.arg, tree)}
            known |= {one.name for _, one in nodes((ast.FunctionDef, ast.ClassDef), tree)}
            known |= {alias.name for _, one in nodes(ast.ImportFrom, tree) for alias in one.names}
            for _, one in nodes(ast.Name, tree):
                self.assertTrue(one.id in known or one.id in BUILTINS, (name, one.id))

    def test_l12_l15_l17_names(self):
        for name, tree in TREES.items():
            taken = {one.name for one in tree.body if isinstance(one, ast.ClassDef)}
            taken |= {alias.name for _, one in nodes(ast.ImportFrom, tree) for alias in one.names}
            for _, one in nodes(ast.FunctionDef, tree):
                for bound in bound_in(one):
                    self.assertNotIn(bound, taken, (name, one.name))
                    self.assertFalse(bound in vars(builtins) or bound in BARRED, (name, bound))
                self.assertFalse(one.name in vars(builtins) or one.name in BARRED, (name, one.name))
                self.assertTrue(not one.name.startswith("__") or one.name in DOUBLE)
            for _, one in nodes(ast.Attribute, tree):
                self.assertNotIn(one.attr, BARRED | {"format", "format_map"})
            for _, one in nodes(ast.Name, tree):
                if one.id == "_":
                    self.assertIsInstance(one.ctx, ast.Store)

    def test_l15_one_binding(self):
        for name, tree in TREES.items():
            bound = []
            for node in tree.body:
                if isinstance(node, (ast.FunctionDef, ast.ClassDef)):
                    bound.append(node.name)
                elif isinstance(node, ast.ImportFrom):
                    bound += [alias.name for alias in node.names]
                elif isinstance(node, ast.Assign):
                    bound.append(node.targets[0].id)
            self.assertEqual(len(bound), len(set(bound)), name)

    def test_l19_caught_errors(self):
        own = {one.name for one in TREES["errors.py"].body if isinstance(one, ast.ClassDef)}
        for name, node in nodes(ast.Try):
            self.assertEqual(node.finalbody, [])
            for handler in node.handlers:
                self.assertIn(handler.type.id, own, name)
                self.assertIsNone(handler.name)

    def test_l19_errors(self):
        for name, node in nodes(ast.Raise):
            self.assertIsInstance(node.exc, ast.Call, name)
            self.assertIsInstance(node.exc.func, ast.Name)
            self.assertRegex(node.exc.func.id, r"\A[A-Z]")

    def test_l20_is(self):
        for name, node in nodes(ast.Compare):
            for op, right in zip(node.ops, node.comparators):
                if isinstance(op, (ast.Is, ast.IsNot)):
                    self.assertIn(ast.unparse(right), ("None", "True", "False", "self"), name)

    def test_l22_l25_calls(self):
        own = {function.name for _, _, function in functions()}
        for name, node in nodes(ast.Call):
            if isinstance(node.func, ast.Attribute):
                self.assertTrue(node.func.attr in METHODS or node.func.attr in own, (name, node.func.attr))
            elif node.func.id in BUILTINS:
                for keyword in node.keywords:
                    self.assertIn(keyword.arg, ("key", "reverse", "default", "start", "strict"), name)

    def test_l23_iterated_at_once(self):
        made = {function.name for _, _, function in functions() if is_generator(function)}
        others = [function.name for _, _, function in functions() if not is_generator(function)]
        self.assertFalse(made & set(others) or made & METHODS)
        called = [node for _, node in nodes(ast.YieldFrom)] + [node for _, node in nodes((ast.For, ast.comprehension))]
        called = [node.value if isinstance(node, ast.YieldFrom) else node.iter for node in called]
        called = [node.func for node in called if isinstance(node, ast.Call)]
        for name, node in nodes(ast.Name):
            if node.id in made and isinstance(node.ctx, ast.Load):
                self.assertIn(node, called, name)
        for name, node in nodes(ast.Assign):
            if isinstance(node.value, ast.Call) and isinstance(node.value.func, ast.Name):
                self.assertNotIn(node.value.func.id, ("zip", "enumerate", "reversed", "map", "set", "iter"), name)


class Classes(unittest.TestCase):
    def test_l5_l28_double_methods(self):
        for name, kind, function in functions():
            if kind is None:
                continue
            returns = [node.value for node in ast.walk(function) if isinstance(node, ast.Return)]
            if function.name == "__init__":
                self.assertEqual(returns, [])
            if function.name == "__len__":
                self.assertTrue(all(ast.unparse(value).startswith("len(") for value in returns))
            if function.name in ("__str__", "__repr__"):
                self.assertTrue(all(ast.unparse(value).startswith("str(") for value in returns))
            if function.name == "__iter__":
                self.assertRegex(ast.unparse(function.body[-1]), r"\Areturn iter\(self\.\w+\)\Z")
            if function.name == "__getitem__":
                self.assertIn("__iter__", {one.name for one in kind.body if isinstance(one, ast.FunctionDef)})
            for node in ast.walk(function):
                if isinstance(node, ast.Attribute) and isinstance(node.ctx, ast.Store):
                    self.assertEqual(ast.unparse(node.value), "self", name)
                    self.assertTrue(function.name == "__init__" or kind.name in ("LiveRing", "Desk"), name)

    def test_l5_operators_store_nothing(self):
        found = unchanging()
        self.assertGreater(len(found), 150)
        for name, _, function in found:
            if function.name == "__init__":
                continue
            for node in ast.walk(function):
                self.assertFalse(isinstance(node, ast.Attribute) and isinstance(node.ctx, ast.Store), (name, function.name))

    def test_l5_class_values(self):
        values = [(kind.name, ast.unparse(node)) for _, kind in nodes(ast.ClassDef) for node in kind.body
                  if not isinstance(node, (ast.FunctionDef, ast.Expr))]
        self.assertEqual(values, [("LiveRing", "MOST = 40")])

    def test_l18_methods_once(self):
        for name, kind in nodes(ast.ClassDef):
            names = [one.name for one in kind.body if isinstance(one, ast.FunctionDef)]
            self.assertEqual(len(names), len(set(names)), (name, kind.name))

    def test_l5_nothing_is_changed(self):
        # Operators and properties change nothing, and neither does what they call: so all functions keep to it.
        for name, _, function in functions():
            fresh = set()
            for node in ast.walk(function):
                if isinstance(node, ast.Assign) and isinstance(node.value, (ast.List, ast.Dict, ast.ListComp)):
                    fresh |= {target.id for target in node.targets if isinstance(target, ast.Name)}
                elif isinstance(node, ast.Assign) and ast.unparse(node.value).startswith(("list(", "dict(", "sorted(")):
                    fresh |= {target.id for target in node.targets if isinstance(target, ast.Name)}
            for node in ast.walk(function):
                self.assertNotIsInstance(node, (ast.AugAssign, ast.Delete), name)
                changed = None
                if isinstance(node, ast.Subscript) and isinstance(node.ctx, ast.Store):
                    changed = node.value
                elif isinstance(node, ast.Call) and isinstance(node.func, ast.Attribute) and node.func.attr in MODIFYING:
                    changed = node.func.value
                if changed is not None:
                    self.assertIn(ast.unparse(changed), fresh, (name, function.name))

    def test_l5_nothing_passed_is_called(self):
        for name, _, function in functions():
            for node in ast.walk(function):
                if isinstance(node, ast.Call) and isinstance(node.func, ast.Name):
                    self.assertNotIn(node.func.id, bound_in(function), (name, function.name))


if __name__ == "__main__":
    unittest.main()

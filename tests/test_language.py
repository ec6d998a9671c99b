"""The package keeps to the subset of Python that is asked of it, as far as a plain look at the syntax can tell.

Where a rule allows something only in some places, this test is stricter and bars it from all: the package does
without lambdas, generators, nested functions and annotations; `try` stands for own errors and for taking back alone.
"""

import ast
import pathlib
import unittest

PACKAGE = pathlib.Path(__file__).resolve().parent.parent / "formworld"
FILES = sorted(PACKAGE.rglob("*.py"))
BUILTINS = set("""len range enumerate zip min max sum abs sorted reversed int str bool list tuple dict set isinstance
    repr any all divmod Exception ValueError TypeError KeyError IndexError LookupError ZeroDivisionError
    ArithmeticError""".split())
ALL_BUILTINS = set(dir(__builtins__)) if not isinstance(__builtins__, dict) else set(__builtins__)
LIBRARY = {"math": {"gcd", "lcm", "isqrt", "comb", "perm", "factorial"}}
METHODS = set("""append clear copy count endswith extend find get index insert isalnum isalpha isdigit islower isspace
    isupper items join keys ljust lower lstrip partition pop remove replace reverse rfind rjust rpartition rsplit
    rstrip setdefault split splitlines startswith strip update upper values zfill bit_length removeprefix
    removesuffix isascii""".split())
ITERATED = {"zip", "enumerate", "range", "reversed"}
BARRED_NAMES = set("""register mro elements open input law version_info with_traceback add_note attrgetter breakpoint
    builtins compile copyright credits delattr dir eval exec exit gc getattr globals hasattr help id importlib license
    locals methodcaller os quit setattr super type vars sys""".split())
BARRED_WORDS = set("""type typing typing_extensions enum Enum IntEnum StrEnum Flag IntFlag Generic Protocol ABC ABCMeta
    namedtuple NamedTuple TypedDict TYPE_CHECKING abstractmethod""".split())
DOUBLE = {"__init__", "__eq__", "__repr__", "__str__", "__len__", "__enter__", "__exit__", "__iter__"}
OPERATORS = {"__setitem__": ["self", "at", "worth"], "__getitem__": ["self", "at"], "__contains__": ["self", "x"]}
BARRED_NODES = (
    ast.Lambda, ast.GeneratorExp, ast.Yield, ast.YieldFrom, ast.Global, ast.Nonlocal, ast.AsyncFunctionDef,
    ast.Await, ast.AnnAssign, ast.NamedExpr, ast.Match, ast.Set, ast.SetComp, ast.Delete, ast.Div,
    ast.MatMult, ast.Import,
)


def parsed():
    for path in FILES:
        tree = ast.parse(path.read_text(encoding="ascii"))
        for node in ast.walk(tree):
            for child in ast.iter_child_nodes(node):
                child.parent = node
        yield path, tree


def module_names(tree):
    names = []
    for node in tree.body:
        if isinstance(node, (ast.FunctionDef, ast.ClassDef)):
            names.append(node.name)
        elif isinstance(node, ast.Assign):
            names.extend(target.id for target in node.targets)
        elif isinstance(node, ast.ImportFrom):
            names.extend(alias.asname or alias.name for alias in node.names)
    return names


def bound_in(function):
    names = {argument.arg for argument in function.args.args + function.args.kwonlyargs}
    names |= {function.args.vararg.arg} if function.args.vararg else set()
    names |= {n.id for n in ast.walk(function) if isinstance(n, ast.Name) and isinstance(n.ctx, ast.Store)}
    return names


class LanguageTest(unittest.TestCase):

    def fail_at(self, path, node, rule):
        self.fail(f"{rule}: {path.name}:{getattr(node, 'lineno', '?')}")

    def test_files(self):
        for path in PACKAGE.rglob("*"):
            if "__pycache__" not in path.parts:
                self.assertEqual(path.suffix, ".py", path)
        self.assertIn(PACKAGE / "__init__.py", FILES)
        for path in FILES:
            text = path.read_text(encoding="ascii")
            lines = text.split("\n")
            self.assertLessEqual(len(lines) - 1, 399, path)
            self.assertLessEqual(max(map(len, lines)), 120, path)
            self.assertTrue(all(c == "\n" or " " <= c <= "~" for c in text), path)

    def test_no_barred_syntax(self):
        for path, tree in parsed():
            for node in ast.walk(tree):
                if isinstance(node, BARRED_NODES):
                    self.fail_at(path, node, type(node).__name__)
                if isinstance(node, ast.Constant) and isinstance(node.value, (float, complex, bytes)):
                    self.fail_at(path, node, "L7 values")
                if isinstance(node, ast.Pow) and not isinstance(node.parent.right, ast.Constant):
                    self.fail_at(path, node.parent, "L27 exponent")
                if isinstance(node, ast.Pow) and not 0 <= node.parent.right.value <= 64:
                    self.fail_at(path, node.parent, "L27 exponent")
                if isinstance(node, (ast.Is, ast.IsNot)):
                    self.assertIsNone(node.parent.comparators[0].value, path)
                if isinstance(node, (ast.arg, ast.FunctionDef)):
                    self.assertIsNone(node.annotation if isinstance(node, ast.arg) else node.returns, path)

    def test_functions(self):
        for path, tree in parsed():
            for node in ast.walk(tree):
                if not isinstance(node, ast.FunctionDef):
                    continue
                self.assertLessEqual(node.end_lineno - node.lineno + 1, 40, (path, node.name))
                self.assertIsInstance(node.parent, (ast.Module, ast.ClassDef), (path, node.name))
                for decorator in node.decorator_list:
                    self.assertIn(decorator.id, ("property", "staticmethod"))
                    self.assertIsInstance(node.parent, ast.ClassDef)
                if node.name.startswith("__"):
                    self.assertIn(node.name, DOUBLE | set(OPERATORS))
                    self.assertIsInstance(node.parent, ast.ClassDef)
                if node.name in OPERATORS:
                    self.assertEqual([argument.arg for argument in node.args.args], OPERATORS[node.name])

    def test_try_and_with(self):
        """Handlers name own error classes and nothing else; what is taken back is one attribute."""
        errors = {node.name for _, tree in parsed() for node in tree.body if isinstance(node, ast.ClassDef)}
        for path, tree in parsed():
            for node in ast.walk(tree):
                if isinstance(node, ast.Try):
                    for handler in node.handlers:
                        self.assertIn(handler.type.id, errors, path)
                        self.assertIsNone(handler.name, path)
                    for row in node.finalbody:
                        self.assertEqual(ast.unparse(row.test).split(" ", 1)[1], "is not None", path)
                        self.assertEqual([type(part) for part in row.body], [ast.Assign], path)
                        self.assertIsInstance(row.body[0].value, ast.Name, path)
                        self.assertEqual(row.orelse, [])
                if isinstance(node, ast.With):
                    self.assertEqual([item.context_expr.func.id for item in node.items], ["Trial"], path)

    def test_exit(self):
        """The rows of `__exit__` assign attributes to attributes, and nothing else happens there."""
        for path, tree in parsed():
            for node in ast.walk(tree):
                if isinstance(node, ast.FunctionDef) and node.name == "__exit__":
                    self.assertEqual([argument.arg for argument in node.args.args], ["self", "kind", "value", "trace"])
                    for row in node.body:
                        self.assertIsInstance(row, ast.Assign, path)
                        self.assertIsInstance(row.value, ast.Attribute, path)
                        self.assertIsInstance(row.targets[0], ast.Attribute, path)

    def test_properties_are_never_assigned(self):
        """No class stores an attribute with the name of a property of any class."""
        names = {n.name for _, tree in parsed() for n in ast.walk(tree) if isinstance(n, ast.FunctionDef)
                 if any(d.id == "property" for d in n.decorator_list)}
        methods = {n.name for _, tree in parsed() for c in ast.walk(tree) if isinstance(c, ast.ClassDef) for n in c.body
                   if isinstance(n, ast.FunctionDef)}
        for path, tree in parsed():
            for node in ast.walk(tree):
                if isinstance(node, ast.Attribute) and isinstance(node.ctx, ast.Store):
                    self.assertNotIn(node.attr, names | methods, (path, node.lineno))

    def test_what_shows_calls_no_own_method(self):
        """Operators, properties, `__str__` and their kin, and the functions they call, call no name of an own method.

        So none of them seems to change what it is handed or holds (L5, L28), not by a method of another class either.
        """
        functions = [n for _, tree in parsed() for n in tree.body if isinstance(n, ast.FunctionDef)]
        methods = [n for _, tree in parsed() for c in ast.walk(tree) if isinstance(c, ast.ClassDef) for n in c.body
                   if isinstance(n, ast.FunctionDef)]
        names = {method.name for method in methods}
        quiet = (DOUBLE | set(OPERATORS)) - {"__init__", "__enter__", "__exit__", "__setitem__"}
        waiting = [m for m in methods if m.name in quiet or any(d.id == "property" for d in m.decorator_list)]
        self.assertIn("__str__", [method.name for method in waiting])
        seen = set()
        while waiting:
            function = waiting.pop()
            for node in ast.walk(function):
                if isinstance(node, ast.Call) and isinstance(node.func, ast.Attribute):
                    self.assertNotIn(node.func.attr, names, (function.name, node.lineno))
                if isinstance(node, ast.Call) and isinstance(node.func, ast.Name):
                    if node.func.id not in seen:
                        seen.add(node.func.id)
                        waiting.extend(called for called in functions if called.name == node.func.id)

    def test_returns_of_str_and_repr(self):
        """What `__str__` and `__repr__` return is a string, an f-string, or a call of `str` or `repr` (L28)."""
        for path, tree in parsed():
            for function in ast.walk(tree):
                if not isinstance(function, ast.FunctionDef) or function.name not in ("__str__", "__repr__"):
                    continue
                self.assertIsInstance(function.body[-1], ast.Return, path)
                for node in ast.walk(function):
                    if isinstance(node, ast.Return):
                        told = node.value
                        if isinstance(told, ast.Call):
                            self.assertIn(ast.unparse(told.func), ("str", "repr"), path)
                        else:
                            self.assertIsInstance(told, (ast.JoinedStr, ast.Constant), path)

    def test_module_level(self):
        for path, tree in parsed():
            for at, node in enumerate(tree.body):
                docstring = at == 0 and isinstance(node, ast.Expr) and isinstance(node.value, ast.Constant)
                allowed = (ast.ImportFrom, ast.FunctionDef, ast.ClassDef, ast.Assign)
                self.assertTrue(docstring or isinstance(node, allowed), (path, node))
                if isinstance(node, ast.Assign):
                    self.assertEqual(len(node.targets), 1)
                    self.assertFalse(any(isinstance(n, (ast.Call, ast.ListComp)) for n in ast.walk(node)), path)
            names = module_names(tree)
            self.assertEqual(len(names), len(set(names)), path)

    def test_imports(self):
        below = {}
        for path, tree in parsed():
            below[path.stem] = set()
            for node in ast.walk(tree):
                if not isinstance(node, ast.ImportFrom):
                    continue
                self.assertEqual(node.level, 0)
                self.assertTrue(all(alias.asname is None for alias in node.names))
                names = {alias.name for alias in node.names}
                if node.module in LIBRARY:
                    self.assertLessEqual(names, LIBRARY[node.module])
                    continue
                package, name = node.module.split(".")
                self.assertEqual(package, "formworld")
                other = ast.parse((PACKAGE / f"{name}.py").read_text())
                imported = {a.name for n in other.body if isinstance(n, ast.ImportFrom) for a in n.names}
                self.assertLessEqual(names, set(module_names(other)) - imported, path)
                below[path.stem].add(name)
                used = {n.id for n in ast.walk(tree) if isinstance(n, ast.Name)}
                self.assertLessEqual(names, used, path)
        while below:
            free = [name for name, needs in below.items() if not needs & set(below)]
            self.assertTrue(free, f"imports in a circle: {sorted(below)}")
            for name in free:
                del below[name]

    def test_names(self):
        for path, tree in parsed():
            outer = set(module_names(tree))
            taken = {node.name for node in tree.body if isinstance(node, ast.ClassDef)}
            taken |= {a.name for n in tree.body if isinstance(n, ast.ImportFrom) for a in n.names}
            methods = {n.name for c in tree.body if isinstance(c, ast.ClassDef) for n in c.body
                       if isinstance(n, ast.FunctionDef)}
            self.assertFalse((outer - taken) & ALL_BUILTINS, path)
            self.assertFalse((outer | methods) & BARRED_NAMES, path)
            for function in [n for n in ast.walk(tree) if isinstance(n, ast.FunctionDef)]:
                local = bound_in(function)
                self.assertFalse(local & taken, (path, function.name))
                self.assertFalse(local & (ALL_BUILTINS | BARRED_NAMES), (path, function.name))
                read = [n.id for n in ast.walk(function) if isinstance(n, ast.Name) and isinstance(n.ctx, ast.Load)]
                self.assertNotIn("_", read, (path, function.name))
                known = local | outer | BUILTINS | {"property", "staticmethod"}
                self.assertLessEqual(set(read), known, (path, function.name))

    def test_calls(self):
        own = {n.name for _, tree in parsed() for n in ast.walk(tree) if isinstance(n, ast.FunctionDef)}
        for path, tree in parsed():
            for node in ast.walk(tree):
                if isinstance(node, ast.Attribute) and isinstance(node.parent, ast.Call) and node.parent.func is node:
                    self.assertIn(node.attr, METHODS | own, (path, node.lineno))
                if isinstance(node, ast.Call) and isinstance(node.func, ast.Name):
                    self.check_builtin_call(path, node)

    def check_builtin_call(self, path, node):
        name = node.func.id
        if name in BUILTINS and node.keywords:
            words = {keyword.arg for keyword in node.keywords}
            self.assertLessEqual(words, {"key", "reverse", "default", "start", "strict"}, (path, node.lineno))
        if name in ITERATED:
            parent = node.parent
            looped = isinstance(parent, (ast.For, ast.comprehension)) and parent.iter is node
            taken = isinstance(parent, ast.Call) and parent.func.id in ("list", "tuple", "sorted", "sum", "dict")
            counted = name == "range" and isinstance(parent, ast.Call) and parent.func.id in ("reversed", "len")
            self.assertTrue(looped or taken or counted, (path, node.lineno))
        if name == "set":
            self.assertIn(node.parent.func.id, ("sorted", "len"), (path, node.lineno))

    def test_words(self):
        for path, tree in parsed():
            docstrings = [n.body[0].value for n in ast.walk(tree)
                          if isinstance(n, (ast.Module, ast.ClassDef, ast.FunctionDef))
                          and isinstance(n.body[0], ast.Expr) and isinstance(n.body[0].value, ast.Constant)]
            for node in ast.walk(tree):
                if isinstance(node, ast.Constant) and isinstance(node.value, str):
                    self.assertNotIn("%", node.value)
                    self.assertNotIn("__", node.value)
                    if node not in docstrings:
                        self.assertFalse(set(node.value.split()) & BARRED_WORDS, path)
                if isinstance(node, ast.Name):
                    self.assertNotIn(node.id, BARRED_WORDS)
                    self.assertFalse(node.id.startswith("__"))
                if isinstance(node, ast.Attribute):
                    self.assertNotIn(node.attr, BARRED_WORDS)
                    self.assertFalse(node.attr.startswith("__"))


if __name__ == "__main__":
    unittest.main()

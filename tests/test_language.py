"""The rules of LANGUAGE.md that a look at the syntax can tell, and that this program might meet."""

import ast
import builtins
import os
import unittest
import warnings

ROOT = os.path.dirname(os.path.dirname(os.path.abspath(__file__)))
PACKAGE = os.path.join(ROOT, "wholeflow")

BUILTINS = """len range enumerate zip min max sum abs sorted reversed int str bool list tuple dict set
isinstance ord repr any all divmod Exception ValueError KeyError IndexError""".split()
METHODS = """append clear copy count endswith extend find get index insert isalnum isalpha isdigit
islower isspace isupper items join keys ljust lower lstrip partition pop remove replace reverse rfind
rjust rpartition rsplit rstrip setdefault split splitlines startswith strip update upper values zfill
bit_length sort add discard""".split()
UNUSED = """mro elements open input law version_info with_traceback add_note register attrgetter
breakpoint builtins compile copyright credits delattr dir eval exec exit gc getattr globals hasattr
help id importlib license locals methodcaller os quit setattr super type vars typing enum Enum Flag
Generic Protocol ABC namedtuple dataclass overload contextmanager""".split()
STATEMENTS = (
    ast.Module, ast.FunctionDef, ast.ClassDef, ast.ImportFrom, ast.Assign, ast.AugAssign, ast.If, ast.While,
    ast.For, ast.Return, ast.Break, ast.Continue, ast.Pass, ast.Raise, ast.Assert, ast.Delete, ast.Try, ast.Expr,
)
DOUBLE_UNDERSCORES = ("__init__", "__eq__")
# Values of all kinds that the language has of its own: the builtin ones (but errors), and what only calls give.
VALUE_KINDS = [kind for kind in vars(builtins).values()
               if isinstance(kind, type) and not issubclass(kind, BaseException)]
VALUE_KINDS += [type(value) for value in ({}.keys(), {}.values(), {}.items(), (sign for sign in ""))]
# The interface itself gives this parameter the name of a function of its file.
SHADOWS = (("audit.py", "proof_holds", "top"),)
UNWANTED = (ast.GeneratorExp, ast.Div, ast.Set, ast.SetComp, ast.Global, ast.Yield, ast.Await)


def files():
    return sorted(name for name in os.listdir(PACKAGE) if name != "__pycache__")


def source(name):
    with open(os.path.join(PACKAGE, name), encoding="utf-8") as file:
        return file.read()


def tree(name):
    return ast.parse(source(name))


def defined(name):
    """The names that a file binds at module level, in their sequence."""
    found = []
    for node in tree(name).body:
        if isinstance(node, (ast.FunctionDef, ast.ClassDef)):
            found.append(node.name)
        elif isinstance(node, ast.Assign):
            found += [target.id for target in node.targets]
        elif isinstance(node, ast.ImportFrom):
            found += [alias.name for alias in node.names]
    return found


def taken_names():
    """The names that values of the language's own have, as a method or an attribute."""
    return {name for kind in VALUE_KINDS for name in dir(kind)}


def uncalled(root):
    """The attributes that are read without being called there."""
    called = [node.func for node in ast.walk(root) if isinstance(node, ast.Call)]
    return [node for node in ast.walk(root)
            if isinstance(node, ast.Attribute) and isinstance(node.ctx, ast.Load) and node not in called]


def local_names(function):
    names = [argument.arg for argument in function.args.args]
    names += [node.id for node in ast.walk(function)
              if isinstance(node, ast.Name) and not isinstance(node.ctx, ast.Load)]
    return names


class LanguageTest(unittest.TestCase):

    def nodes(self, *kinds):
        for name in files():
            for node in ast.walk(tree(name)):
                if isinstance(node, kinds):
                    yield name, node

    def test_files(self):
        self.assertIn("__init__.py", files())
        for name in files():
            self.assertTrue(name.endswith(".py") and name == name.lower(), name)

    def test_sizes_and_signs(self):
        for name in files():
            text = source(name)
            self.assertTrue(all(sign == "\n" or " " <= sign <= "~" for sign in text), name)
            lines = text.split("\n")
            self.assertLess(len(lines), 400, name)
            self.assertLessEqual(max(len(line) for line in lines), 120, name)
        for name, node in self.nodes(ast.FunctionDef):
            self.assertLessEqual(node.end_lineno - node.lineno + 1, 40, (name, node.name))
            self.assertEqual(node.decorator_list, [])
            self.assertTrue(ast.get_docstring(node) or node.name in DOUBLE_UNDERSCORES, (name, node.name))

    def test_imports(self):
        ahead = {"__init__.py": []}
        for name in files():
            ahead[name] = []
        for name, node in self.nodes(ast.ImportFrom):
            self.assertEqual(node.level, 0)
            self.assertTrue(node.module.startswith("wholeflow."), name)
            other = node.module.split(".")[1] + ".py"
            ahead[name].append(other)
            own = [row.name for row in tree(other).body if isinstance(row, (ast.FunctionDef, ast.ClassDef))]
            own += [row.targets[0].id for row in tree(other).body if isinstance(row, ast.Assign)]
            for alias in node.names:
                self.assertIsNone(alias.asname)
                self.assertIn(alias.name, own)
        while ahead:
            free = [name for name in ahead if not any(other in ahead for other in ahead[name])]
            self.assertTrue(free, "imports go in a circle")
            for name in free:
                del ahead[name]

    def test_statements(self):
        for name, node in self.nodes(ast.stmt):
            self.assertIsInstance(node, STATEMENTS, name)
        for name, node in self.nodes(*UNWANTED):
            self.fail((name, node.lineno))
        for name, node in self.nodes(ast.Constant):
            self.assertNotIsInstance(node.value, (float, complex, bytes))
            if isinstance(node.value, str):
                self.assertNotIn("%", node.value, name)

    def test_module_level(self):
        for name in files():
            for at, node in enumerate(tree(name).body):
                if isinstance(node, ast.Expr):
                    self.assertEqual(at, 0)
                else:
                    self.assertIsInstance(node, (ast.ImportFrom, ast.FunctionDef, ast.ClassDef, ast.Assign))
            self.assertEqual(len(defined(name)), len(set(defined(name))), name)

    def test_names(self):
        for name, node in self.nodes(ast.Name):
            if hasattr(builtins, node.id):
                self.assertIn(node.id, BUILTINS, name)
            self.assertNotIn(node.id, UNUSED, name)
        for name, node in self.nodes(ast.FunctionDef):
            if node.name not in DOUBLE_UNDERSCORES:
                self.assertFalse(hasattr(builtins, node.name), (name, node.name))
            for local in local_names(node):
                self.assertFalse(hasattr(builtins, local), (name, local))
            for local in local_names(node):
                if (name, node.name, local) not in SHADOWS:
                    self.assertNotIn(local, defined(name), (name, node.name))

    def test_methods(self):
        own = [method.name for _, node in self.nodes(ast.ClassDef)
               for method in node.body if isinstance(method, ast.FunctionDef)]
        for name, node in self.nodes(ast.Call):
            if isinstance(node.func, ast.Attribute):
                self.assertIn(node.func.attr, METHODS + own, name)
                self.assertTrue(node.func.attr != "sort", name)
                if node.func.attr in METHODS:
                    self.assertEqual(node.keywords, [], name)

    def test_attributes(self):
        """No attribute has the name of a method, each that is read is assigned, and none is of a builtin value."""
        own = {method.name for _, node in self.nodes(ast.ClassDef)
               for method in node.body if isinstance(method, ast.FunctionDef)}
        assigned = {node.attr for _, node in self.nodes(ast.Attribute) if isinstance(node.ctx, ast.Store)}
        self.assertEqual(own & assigned, set())
        for value in ("", 0, [], {}, set(), b"", ()):
            self.assertEqual([name for name in assigned | own - {"__init__", "__eq__", "copy"} if hasattr(value, name)], [])
        for name, node in self.nodes(ast.Attribute):
            if isinstance(node.ctx, ast.Load):
                self.assertIn(node.attr, assigned | own | set(METHODS), name)

    def test_methods_as_values(self):
        """A method that is read without a call is an own one, off an object, of a name that is only its own."""
        classes = [node.name for _, node in self.nodes(ast.ClassDef)]
        own = {method.name for _, node in self.nodes(ast.ClassDef)
               for method in node.body if isinstance(method, ast.FunctionDef)}
        assigned = {node.attr for _, node in self.nodes(ast.Attribute) if isinstance(node.ctx, ast.Store)}
        free = own - taken_names()
        for name in files():
            for node in uncalled(tree(name)):
                if node.attr not in assigned:
                    self.assertIn(node.attr, free, (name, node.lineno))
                    self.assertNotIn(getattr(node.value, "id", None), classes, (name, node.lineno))

    def test_names_of_values(self):
        """The look above knows what ranges and their like have, and tells a call from a read."""
        for word in ("start", "stop", "step", "append", "copy", "items", "mapping", "send", "real", "encode"):
            self.assertIn(word, taken_names())
        for word in ("grant", "queue", "signal", "move"):
            self.assertNotIn(word, taken_names())
        rows = ast.parse("one(a.start, b.start(), c.start().stop, d.start(e.copy))")
        self.assertEqual([(node.value.id if isinstance(node.value, ast.Name) else None, node.attr)
                          for node in uncalled(rows)], [("a", "start"), (None, "stop"), ("e", "copy")])

    def test_double_underscores(self):
        for name, node in self.nodes(ast.FunctionDef):
            if node.name.startswith("__"):
                self.assertIn(node.name, DOUBLE_UNDERSCORES)
            self.assertTrue(node.args.vararg is None and node.args.kwarg is None and not node.args.defaults, name)

    def test_handlers(self):
        errors = [row.name for row in tree("errors.py").body if isinstance(row, ast.ClassDef)]
        for name, node in self.nodes(ast.ExceptHandler):
            self.assertIn(node.type.id, errors, name)
        for name, node in self.nodes(ast.Raise):
            self.assertIn(node.exc.func.id, errors, name)

    def test_warnings(self):
        for name in files():
            with warnings.catch_warnings():
                warnings.simplefilter("error")
                compile(source(name), name, "exec")

    def test_is(self):
        for name, node in self.nodes(ast.Compare):
            for sign, right in zip(node.ops, node.comparators):
                if isinstance(sign, (ast.Is, ast.IsNot)):
                    self.assertIn(getattr(right, "value", "other"), (None, True, False), name)


if __name__ == "__main__":
    unittest.main()

"""What can be seen by a test of the rules L1 to L28 for the files of the package."""

import ast
import builtins
import io
import pathlib
import re
import tokenize
import unittest

PACKAGE = pathlib.Path(__file__).resolve().parent.parent / "websplit"

BUILTINS = set(
    "len range enumerate zip min max sum abs sorted reversed int str bool bytes list tuple dict set frozenset "
    "isinstance ord repr any all divmod Exception ValueError TypeError KeyError IndexError LookupError "
    "ZeroDivisionError ArithmeticError OverflowError RuntimeError NotImplementedError AttributeError "
    "StopIteration NotImplemented super property staticmethod classmethod object".split())
METHODS = set(
    "append clear copy count endswith extend find get index insert isalnum isalpha isdigit islower isspace isupper "
    "items join keys ljust lower lstrip partition pop remove replace reverse rfind rjust rpartition rsplit rstrip "
    "setdefault split splitlines startswith strip update upper values zfill bit_length title capitalize swapcase "
    "casefold center expandtabs removeprefix removesuffix rindex isascii isdecimal isnumeric istitle isidentifier "
    "isprintable add discard __init__".split())
DOUBLE = set("__init__ __eq__ __repr__ __str__ __len__ __enter__ __exit__ __call__ __iter__".split())
WORDS = re.compile(
    r"\b(type|typing|typing_extensions|enum|Enum|IntEnum|StrEnum|Flag|IntFlag|Generic|Protocol|ABC|ABCMeta|"
    r"namedtuple|NamedTuple|TypedDict|TYPE_CHECKING|abstractmethod)\b|dataclass|overload|contextmanager")
NEVER = set("register mro elements open input version_info with_traceback add_note format format_map".split())
STATEMENTS = (
    ast.Assign, ast.AugAssign, ast.AnnAssign, ast.If, ast.While, ast.For, ast.Return, ast.Break, ast.Continue, ast.Pass,
    ast.Raise, ast.Assert, ast.Delete, ast.Nonlocal, ast.Match, ast.With, ast.Try, ast.Expr, ast.FunctionDef,
    ast.ClassDef, ast.ImportFrom)
EAGER = ("any", "all", "min", "max", "sum", "sorted")
TAKES = ("list", "tuple", "dict", "sorted", "sum", "any", "all", "enumerate", "zip", "bytes", "min", "max")


def trees():
    """The tree of each file, by its name."""
    return {path.stem: ast.parse(path.read_text()) for path in sorted(PACKAGE.glob("*.py"))}


def bound(tree):
    """The names that a module binds at its top, as often as it does."""
    names = []
    for row in tree.body:
        if isinstance(row, (ast.FunctionDef, ast.ClassDef)):
            names.append(row.name)
        elif isinstance(row, ast.ImportFrom):
            names += [name.asname or name.name for name in row.names]
        elif isinstance(row, ast.Assign):
            names += [target.id for target in row.targets]
    return names


def defined(tree):
    """The names that a module defines itself."""
    imported = [name.asname or name.name for row in tree.body if isinstance(row, ast.ImportFrom) for name in row.names]
    return [name for name in bound(tree) if name not in imported]


def kinds(tree, kind):
    return [node for node in ast.walk(tree) if isinstance(node, kind)]


def locals_of(tree):
    """The names that functions and comprehensions bind within themselves."""
    found = {node.arg for node in kinds(tree, ast.arg)}
    for scope in kinds(tree, (ast.FunctionDef, ast.Lambda)):
        found |= {node.id for node in kinds(scope, ast.Name) if not isinstance(node.ctx, ast.Load)}
        found |= {node.name for node in kinds(scope, ast.FunctionDef) if node is not scope}
        found |= {node.name for node in kinds(scope, ast.ExceptHandler) if node.name}
    return found


def homes(tree):
    """What each node stands in."""
    return {child: node for node in ast.walk(tree) for child in ast.iter_child_nodes(node)}


def calls(node, *names):
    """Whether it is a call of a builtin of one of these names."""
    return isinstance(node, ast.Call) and isinstance(node.func, ast.Name) and node.func.id in names


class Files(unittest.TestCase):
    def test_names_and_sizes(self):
        for path in PACKAGE.iterdir():
            if path.name == "__pycache__":
                continue
            self.assertRegex(path.name, r"\A([a-z][a-z0-9_]*|__init__|__main__)\.py\Z")
            text = path.read_text()
            self.assertRegex(text, r"\A[ -~\n]*\Z", path.name)
            rows = text.split("\n")
            self.assertLessEqual(len(rows), 400, path.name)
            self.assertLessEqual(max(len(row) for row in rows), 120, path.name)
            self.assertIsNone(WORDS.search(text), path.name)

    def test_strings(self):
        for path in PACKAGE.glob("*.py"):
            for token in tokenize.generate_tokens(io.StringIO(path.read_text()).readline):
                if token.type == tokenize.STRING:
                    self.assertNotIn("%", token.string, path.name)
                    self.assertIsNone(re.search(r"\\[^nt\\'\"]", token.string), path.name)

    def test_imports(self):
        files = trees()
        for name, tree in files.items():
            for node in kinds(tree, (ast.Import, ast.ImportFrom)):
                self.assertIsInstance(node, ast.ImportFrom, name)
                self.assertIn(node, tree.body)
                self.assertEqual(node.level, 0)
                package, _, file = node.module.partition(".")
                self.assertEqual(package, "websplit")
                for told in node.names:
                    self.assertIn(told.name, defined(files[file]), name)

    def test_no_file_imports_itself_by_others(self):
        files = trees()
        ahead = {name: {node.module.partition(".")[2] for node in kinds(tree, ast.ImportFrom)}
                 for name, tree in files.items()}
        while ahead:
            free = [name for name in ahead if not ahead[name] & set(ahead)]
            self.assertTrue(free, ahead)
            for name in free:
                del ahead[name]


class Rows(unittest.TestCase):
    def test_module_level(self):
        for name, tree in trees().items():
            self.assertEqual(len(bound(tree)), len(set(bound(tree))), name)
            self.assertIsNotNone(ast.get_docstring(tree), name)
            for row in tree.body[1:]:
                self.assertIsInstance(row, (ast.ImportFrom, ast.FunctionDef, ast.ClassDef, ast.Assign), name)

    def test_statements(self):
        for name, tree in trees().items():
            for node in kinds(tree, ast.stmt):
                self.assertIsInstance(node, STATEMENTS, f"{name} {node.lineno}")
            for node in kinds(tree, ast.FunctionDef):
                self.assertLessEqual(node.end_lineno - node.lineno + 1, 40, f"{name} {node.name}")
                self.assertEqual(node.args.posonlyargs, [])
            for node in kinds(tree, ast.ClassDef):
                self.assertIn(node, tree.body)
                self.assertEqual(node.decorator_list, [])
                for row in node.body:
                    if isinstance(row, ast.FunctionDef) and row.name.startswith("_"):
                        self.assertIn(row.name, DOUBLE)

    def test_expressions(self):
        for name, tree in trees().items():
            for node in ast.walk(tree):
                where = f"{name} {getattr(node, 'lineno', '')}"
                self.assertNotIsInstance(node, (ast.Div, ast.MatMult, ast.Await), where)
                if isinstance(node, ast.Constant):
                    self.assertNotIsInstance(node.value, (float, complex), where)
                if isinstance(node, ast.Compare) and any(isinstance(sign, (ast.Is, ast.IsNot)) for sign in node.ops):
                    self.assertIsInstance(node.comparators[0], ast.Constant, where)
                # Web has an __eq__, so these take lists (L7).
                if isinstance(node, ast.Call) and isinstance(node.func, ast.Name) and node.func.id in EAGER:
                    self.assertNotIsInstance(node.args[0], ast.GeneratorExp, where)
                if isinstance(node, ast.Raise) and node.exc is not None:
                    self.assertIsInstance(node.exc, ast.Call, where)
                if isinstance(node, ast.ExceptHandler):
                    self.assertIsNotNone(node.type, where)

    def test_names(self):
        for name, tree in trees().items():
            inner = locals_of(tree)
            taken = set(dir(builtins)) | {node.name for node in kinds(tree, ast.ClassDef)}
            taken |= set(bound(tree)) - set(defined(tree))
            self.assertEqual(inner & taken, set(), name)
            self.assertEqual((inner | set(bound(tree))) & NEVER, set(), name)
            for word in inner | set(bound(tree)):
                self.assertFalse(word.startswith("_"), word)
            free = {node.id for node in kinds(tree, ast.Name)} - inner - set(bound(tree))
            self.assertEqual(free - BUILTINS, set(), name)


class Places(unittest.TestCase):
    """Where sets, what is iterated at once, builtins and classes stand."""

    def nodes(self, kind):
        for name, tree in trees().items():
            home = homes(tree)
            for node in kinds(tree, kind):
                yield node, home, f"{name} {getattr(node, 'lineno', '')}"

    def is_set(self, node):
        return isinstance(node, (ast.Set, ast.SetComp)) or calls(node, "set")

    def test_sets(self):
        """L24: beside `in` and `==`, alone in sorted and len, or in a variable of their own."""
        for node, home, where in self.nodes(ast.expr):
            if not self.is_set(node):
                continue
            while isinstance(home[node], ast.BinOp):
                node = home[node]
            place = home[node]
            self.assertIsInstance(place, (ast.Compare, ast.Call, ast.Assign), where)
            if isinstance(place, ast.Compare):
                self.assertIsInstance(place.ops[0], (ast.In, ast.NotIn, ast.Eq, ast.NotEq), where)
            elif isinstance(place, ast.Call):
                self.assertTrue(calls(place, "sorted", "len") and not place.keywords, where)
            self.assertFalse(calls(node, "frozenset"), where)

    def test_iterated_at_once(self):
        """L23."""
        for node, home, where in self.nodes(ast.Call):
            method = node.func.attr if isinstance(node.func, ast.Attribute) else ""
            if calls(node, "zip", "enumerate", "reversed", "range") or method in ("items", "keys", "values"):
                place = home[node]
                if not isinstance(place, (ast.For, ast.comprehension)) or place.iter is not node:
                    self.assertTrue(calls(place, *TAKES) and place.args[0] is node, where)

    def test_generator_expressions(self):
        """L7: they stand directly in a builtin, or in the join of a literal."""
        for node, home, where in self.nodes(ast.GeneratorExp):
            self.assertTrue(calls(home[node], "list", "tuple", "dict"), where)

    def test_builtins_are_called(self):
        """L22, L18: no builtin and no class is a value."""
        classes = {node.name for tree in trees().values() for node in kinds(tree, ast.ClassDef)}
        for node, home, where in self.nodes(ast.Name):
            if isinstance(node.ctx, ast.Load) and node.id in classes | BUILTINS:
                place = home[node]
                while isinstance(place, ast.Tuple):
                    place = home[place]
                told = isinstance(place, (ast.ClassDef, ast.ExceptHandler, ast.Raise, ast.keyword))
                self.assertTrue(told or isinstance(place, ast.Call) and place.func is node or calls(place, "isinstance"), where)

    def test_keywords_of_builtins(self):
        """L22."""
        for node, _, where in self.nodes(ast.Call):
            if isinstance(node.func, ast.Name) and node.func.id in BUILTINS:
                told = {"sorted": {"key", "reverse"}, "min": {"key", "default"}, "max": {"key", "default"},
                        "sum": {"start"}, "enumerate": {"start"}, "zip": {"strict"}}.get(node.func.id, set())
                self.assertLessEqual({word.arg for word in node.keywords}, told, where)

    def test_stars(self):
        """L7: behind a star in a call stands a name, or an attribute off one."""
        for node, home, where in self.nodes(ast.Starred):
            if isinstance(home[node], ast.Call):
                self.assertIsInstance(node.value, (ast.Name, ast.Attribute), where)

    def test_targets(self):
        """L6: items are assigned and deleted off names and attributes, not off calls."""
        for node, home, where in self.nodes(ast.Subscript):
            if not isinstance(node.ctx, ast.Load):
                self.assertIsInstance(node.value, (ast.Name, ast.Attribute), where)
            if isinstance(node.ctx, ast.Del):
                self.assertNotIsInstance(node.slice, (ast.Tuple, ast.List), where)
        for node, home, where in self.nodes(ast.Attribute):
            self.assertNotIsInstance(node.ctx, ast.Del, where)
            if isinstance(node.ctx, ast.Store):
                self.assertIsInstance(node.value, ast.Name, where)

    def test_finally(self):
        """L6: only an attribute or a name that is assigned a name, an attribute or a literal."""
        for node, home, where in self.nodes(ast.Try):
            for row in node.finalbody:
                self.assertIsInstance(row, ast.Assign, where)
                self.assertIsInstance(row.value, (ast.Name, ast.Attribute, ast.Constant), where)

    def test_handlers(self):
        """L19: only own errors are caught."""
        own = {node.name for node in kinds(trees()["errors"], ast.ClassDef)}
        for node, home, where in self.nodes(ast.ExceptHandler):
            self.assertIsInstance(node.type, ast.Name, where)
            self.assertIn(node.type.id, own, where)

    def test_tables_have_own_functions(self):
        """L3: plain values, and functions defined above in the same file."""
        for name, tree in trees().items():
            above = set()
            for row in tree.body:
                if isinstance(row, ast.FunctionDef):
                    above.add(row.name)
                elif isinstance(row, ast.Assign):
                    self.assertLessEqual({node.id for node in kinds(row.value, ast.Name)}, above, name)

    def test_tables_are_only_read(self):
        """L15: what a module has in lists and dicts is asked by an index or by `in`."""
        for name, tree in trees().items():
            home = homes(tree)
            tables = {row.targets[0].id for row in tree.body if isinstance(row, ast.Assign)
                      and isinstance(row.value, (ast.List, ast.Dict))}
            for node in kinds(tree, ast.Name):
                if node.id in tables and isinstance(node.ctx, ast.Load):
                    place = home[node]
                    self.assertIsInstance(place, (ast.Subscript, ast.Compare), f"{name} {node.lineno}")
                    self.assertIsInstance(getattr(place, "ctx", ast.Load()), ast.Load, f"{name} {node.lineno}")


class Classes(unittest.TestCase):
    def setUp(self):
        files = trees().values()
        classes = [node for tree in files for node in kinds(tree, ast.ClassDef)]
        self.methods = {row.name for node in classes for row in node.body if isinstance(row, ast.FunctionDef)}
        found = [node for tree in files for node in kinds(tree, ast.Attribute)]
        self.assigned = {node.attr for node in found if isinstance(node.ctx, ast.Store)}
        self.read = {node.attr for node in found}

    def test_no_name_is_a_method_and_an_attribute(self):
        self.assertEqual(self.methods & self.assigned, set())

    def test_each_attribute_is_known(self):
        self.assertEqual(self.read - self.methods - self.assigned - METHODS, set())

    def test_no_attribute_will_clash_with_a_method_of_the_interface(self):
        later = set(
            "knots ties outs ins kind worths tie tell last first web bars let_go keep forget names kept came went "
            "searches answer write rows steps is_up ask mail showing barring placing house move move_on move_back "
            "moving run crossed least parts busy say".split())
        self.assertEqual(self.assigned & later, set())


if __name__ == "__main__":
    unittest.main()

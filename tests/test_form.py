"""Rules of form that every file of the package keeps (LANGUAGE.md, the plain ones)."""

import ast
import builtins
import io
import os
import tokenize
import unittest

PACKAGE = "laidforall"

FOLDER = os.path.join(os.path.dirname(os.path.dirname(os.path.abspath(__file__))), PACKAGE)

BUILTINS = set("""
len range enumerate zip min max sum abs sorted reversed int str bool list tuple dict set
isinstance ord repr any all divmod iter next ValueError NotImplemented StopIteration KeyError
property staticmethod classmethod super TypeError
""".split())

METHODS = set("""
append clear copy count endswith extend find get index insert isalnum isalpha isdigit islower
isspace isupper items join keys ljust lower lstrip partition pop remove replace reverse rfind
rjust rpartition rsplit rstrip setdefault split splitlines startswith strip update upper values
zfill bit_length removesuffix
""".split())

DOUBLE = set("""
__init__ __eq__ __ne__ __lt__ __le__ __gt__ __ge__ __repr__ __str__ __len__ __enter__ __exit__
__call__ __iter__ __contains__ __getitem__ __add__ __iadd__ __or__ __and__ __sub__ __xor__ __bool__
""".split())

NEVER_NAMES = set("""
register mro elements open input law version_info with_traceback add_note attrgetter breakpoint
builtins compile copyright credits delattr dir eval exec exit gc getattr globals hasattr help id
importlib license locals methodcaller os quit setattr super type vars sys keys
""".split())

NEVER_WORDS = set("""
type typing typing_extensions enum Enum IntEnum StrEnum Flag IntFlag Generic Protocol ABC ABCMeta
namedtuple NamedTuple TypedDict TYPE_CHECKING abstractmethod dataclass overload contextmanager
""".split())

LIBRARY = {"heapq": ("heappush", "heappop")}

BARRED_BEGINNINGS = (
    "_wall", "_pe_", "_dcw_", "_enum_", "_cm_", "_twin_re_", "_lay_", "_law_", "_stub_", "_sre",
)

CHANGING = set("append clear extend insert pop remove reverse setdefault update".split())

BARRED_NODES = (
    ast.GeneratorExp, ast.Global, ast.AsyncFunctionDef, ast.Await, ast.AsyncFor, ast.AsyncWith,
    ast.SetComp, ast.Set, ast.Div, ast.AnnAssign,
)


def sources():
    """The texts of all files of the package, by the names of their modules."""
    found = {}
    for name in sorted(os.listdir(FOLDER)):
        if name == "__pycache__":
            continue
        with open(os.path.join(FOLDER, name), encoding="utf-8") as file:
            found[name] = file.read()
    return found


def last_name(node):
    """The name, or the last attribute, that a node reads from."""
    if isinstance(node, ast.Subscript):
        return last_name(node.value)
    return getattr(node, "id", getattr(node, "attr", None))


def iterated_names(node):
    """The names of what a loop goes over."""
    if isinstance(node, ast.IfExp):
        return iterated_names(node.body) | iterated_names(node.orelse)
    if not isinstance(node, ast.Call):
        return {last_name(node)}
    if isinstance(node.func, ast.Attribute) and node.func.attr in ("items", "keys", "values"):
        return iterated_names(node.func.value)
    if isinstance(node.func, ast.Name) and node.func.id in ("enumerate", "zip", "reversed"):
        return set().union(*[iterated_names(part) for part in node.args])
    return set()


def modified_names(body):
    """The names of what some statements change in place."""
    for part in (part for statement in body for part in ast.walk(statement)):
        if isinstance(part, ast.Call) and isinstance(part.func, ast.Attribute) and part.func.attr in CHANGING:
            yield last_name(part.func.value)
        if isinstance(part, ast.AugAssign):
            yield last_name(part.target)
        for target in getattr(part, "targets", []):
            for inner in ast.walk(target):
                if isinstance(inner, ast.Subscript) or isinstance(part, ast.Delete):
                    yield last_name(inner)


class FormTest(unittest.TestCase):
    def setUp(self):
        self.sources = sources()
        self.trees = {name: ast.parse(text) for name, text in self.sources.items()}

    def all_nodes(self):
        for name, tree in self.trees.items():
            for node in ast.walk(tree):
                yield name, node

    def functions(self):
        for name, node in self.all_nodes():
            if isinstance(node, ast.FunctionDef):
                yield name, node

    def test_files_and_characters(self):
        self.assertIn("__init__.py", self.sources)
        for name, text in self.sources.items():
            self.assertRegex(name, r"^[a-z_][a-z0-9_]*\.py$")
            self.assertTrue(set(text) <= set(map(chr, range(32, 127))) | {"\n"}, name)
            lines = text.split("\n")
            self.assertLess(len(lines), 400, name)
            self.assertLessEqual(max(map(len, lines)), 120, name)
            self.assertFalse([line for line in lines if line != line.rstrip()], name)

    def test_short_functions(self):
        for name, node in self.functions():
            self.assertLessEqual(node.end_lineno - node.lineno + 1, 40, (name, node.name))

    def test_docstrings(self):
        for name, tree in self.trees.items():
            self.assertTrue(ast.get_docstring(tree), name)
        for name, node in self.all_nodes():
            if isinstance(node, ast.ClassDef):
                self.assertTrue(ast.get_docstring(node), (name, node.name))
        for name, node in self.functions():
            if not node.name.startswith("__"):
                self.assertTrue(ast.get_docstring(node), (name, node.name))

    def test_module_level(self):
        for name, tree in self.trees.items():
            for at, node in enumerate(tree.body):
                if at == 0:
                    self.assertIsInstance(node, ast.Expr)
                    continue
                kinds = (ast.ImportFrom, ast.FunctionDef, ast.ClassDef, ast.Assign)
                self.assertIsInstance(node, kinds, name)
                if isinstance(node, ast.Assign):
                    self.assertEqual(len(node.targets), 1)
                    self.assertIsInstance(node.targets[0], ast.Name)
                    for part in ast.walk(node.value):
                        self.assertNotIsInstance(part, (ast.Call, ast.List, ast.Set))

    def test_imports_name_the_file_that_defines(self):
        defined = {}
        needed = {}
        for name, tree in self.trees.items():
            module = f"{PACKAGE}.{name[:-3]}"
            defined[module] = set()
            for node in tree.body:
                if isinstance(node, (ast.FunctionDef, ast.ClassDef)):
                    defined[module].add(node.name)
                if isinstance(node, ast.Assign):
                    defined[module].add(node.targets[0].id)
        for name, node in self.all_nodes():
            self.assertNotIsInstance(node, ast.Import, name)
            if isinstance(node, ast.ImportFrom) and node.module in LIBRARY:
                for alias in node.names:
                    self.assertIsNone(alias.asname)
                    self.assertIn(alias.name, LIBRARY[node.module], name)
            elif isinstance(node, ast.ImportFrom):
                needed.setdefault(f"{PACKAGE}.{name[:-3]}", []).append(node.module)
                for alias in node.names:
                    self.assertIsNone(alias.asname)
                    self.assertIn(alias.name, defined[node.module], name)
        while needed:
            free = [module for module, others in needed.items()
                    if not any(other in needed for other in others)]
            self.assertTrue(free, "files import from each other")
            for module in free:
                needed.pop(module)

    def test_all_imports_are_used(self):
        for name, tree in self.trees.items():
            used = {node.id for node in ast.walk(tree) if isinstance(node, ast.Name)}
            for node in tree.body:
                if isinstance(node, ast.ImportFrom):
                    for alias in node.names:
                        self.assertIn(alias.name, used, name)

    def test_all_own_names_are_used(self):
        used = {node.id for _, node in self.all_nodes() if isinstance(node, ast.Name)}
        for name, tree in self.trees.items():
            for node in tree.body:
                if isinstance(node, ast.FunctionDef) and node.name.startswith("_"):
                    self.assertIn(node.name, used, name)

    def test_barred_nodes(self):
        for name, node in self.all_nodes():
            self.assertNotIsInstance(node, BARRED_NODES, (name, getattr(node, "lineno", 0)))
            if isinstance(node, ast.Constant):
                self.assertNotIsInstance(node.value, (float, complex))
            if isinstance(node, (ast.Is, ast.IsNot)):
                continue
            if isinstance(node, ast.Compare):
                for sign, side in zip(node.ops, node.comparators):
                    if isinstance(sign, (ast.Is, ast.IsNot)):
                        self.assertIsInstance(side, ast.Constant)

    def test_decorators(self):
        for name, node in self.all_nodes():
            if isinstance(node, ast.FunctionDef):
                told = [ast.unparse(part) for part in node.decorator_list]
                self.assertIn(told, ([], ["property"], ["staticmethod"], ["classmethod"]), name)
            if isinstance(node, ast.ClassDef):
                self.assertEqual(node.decorator_list, [])

    def test_names(self):
        barred = {name for name in dir(builtins) if not name.startswith("_")} | NEVER_NAMES
        for name, node in self.all_nodes():
            told = []
            if isinstance(node, ast.Name) and not isinstance(node.ctx, ast.Load):
                told.append(node.id)
            if isinstance(node, ast.arg):
                told.append(node.arg)
            if isinstance(node, (ast.FunctionDef, ast.ClassDef)):
                told.append(node.name)
            if isinstance(node, ast.ExceptHandler) and node.name:
                told.append(node.name)
            for word in told:
                self.assertNotIn(word, barred, name)
                self.assertFalse(word.startswith(BARRED_BEGINNINGS), (name, word))
                self.assertTrue(not word.startswith("__") or word in DOUBLE, (name, word))
            if isinstance(node, ast.ClassDef):
                self.assertRegex(node.name, "^[A-Za-z]")
            if isinstance(node, ast.Name) and isinstance(node.ctx, ast.Load):
                self.assertNotEqual(node.id, "_", name)

    def test_builtins(self):
        for name, node in self.all_nodes():
            if isinstance(node, ast.Name) and hasattr(builtins, node.id):
                self.assertIn(node.id, BUILTINS, name)

    def test_locals_hide_no_import_and_no_class(self):
        for name, tree in self.trees.items():
            hidden = {alias.name for node in tree.body if isinstance(node, ast.ImportFrom)
                      for alias in node.names}
            hidden |= {node.name for node in tree.body
                       if isinstance(node, (ast.ClassDef, ast.FunctionDef))}
            for node in ast.walk(tree):
                if isinstance(node, ast.Name) and isinstance(node.ctx, ast.Store):
                    self.assertNotIn(node.id, hidden, name)
                if isinstance(node, ast.arg):
                    self.assertNotIn(node.arg, hidden, name)

    def test_methods_and_attributes(self):
        methods = set()
        values = set()
        for _, node in self.all_nodes():
            if isinstance(node, ast.ClassDef):
                methods |= {part.name for part in node.body if isinstance(part, ast.FunctionDef)}
                values |= {part.targets[0].id for part in node.body if isinstance(part, ast.Assign)}
        stored = {node.attr for _, node in self.all_nodes()
                  if isinstance(node, ast.Attribute) and isinstance(node.ctx, ast.Store)}
        self.assertEqual((methods | values) & stored, set())
        self.assertEqual(stored & (METHODS - {"count", "index", "find", "get", "copy"}), set())
        for name, node in self.all_nodes():
            if isinstance(node, ast.Attribute) and isinstance(node.ctx, ast.Load):
                self.assertIn(node.attr, methods | stored | values | METHODS, name)
            if isinstance(node, ast.Call) and isinstance(node.func, ast.Attribute):
                self.assertIn(node.func.attr, methods | METHODS, (name, node.lineno))
                if node.func.attr not in methods:
                    self.assertEqual(node.keywords, [], name)

    def test_generators_have_names_of_their_own(self):
        names = [node.name for _, node in self.functions()]
        for name, node in self.functions():
            if any(isinstance(part, (ast.Yield, ast.YieldFrom)) for part in ast.walk(node)):
                self.assertEqual(names.count(node.name), 1, (name, node.name))

    def test_operators_and_what_they_call_change_nothing_in_place(self):
        """No += in what an operator, a property or __eq__, __len__, __str__ runs."""
        owned = {}
        for _, node in self.all_nodes():
            if isinstance(node, ast.FunctionDef):
                owned.setdefault(node.name, []).append(node)
            if isinstance(node, ast.ClassDef):
                owned.setdefault(node.name, []).extend(
                    part for part in node.body
                    if isinstance(part, ast.FunctionDef) and part.name == "__init__")
        waiting = [node for _, node in self.functions() if self.is_quiet(node)]
        known = []
        while waiting:
            node = waiting.pop()
            if node in known:
                continue
            known.append(node)
            for part in ast.walk(node):
                self.assertNotIsInstance(part, ast.AugAssign, node.name)
                if isinstance(part, ast.Call):
                    called = getattr(part.func, "id", getattr(part.func, "attr", ""))
                    if called not in METHODS:
                        waiting.extend(owned.get(called, []))
        self.assertTrue(known)

    def test_loops_do_not_change_what_they_go_over(self):
        for name, node in self.all_nodes():
            if isinstance(node, ast.For):
                gone_over = iterated_names(node.iter) - {None}
                self.assertEqual(gone_over & set(modified_names(node.body)), set(), (name, node.lineno))

    def is_quiet(self, node):
        told = [ast.unparse(part) for part in node.decorator_list]
        busy = ("__init__", "__call__", "__iter__", "__enter__", "__exit__", "__iadd__")
        return "property" in told or node.name.startswith("__") and node.name not in busy

    def test_length_and_text_methods(self):
        for name, node in self.functions():
            if node.name in ("__len__", "__str__", "__repr__", "__iter__"):
                last = node.body[-1]
                self.assertIsInstance(last, ast.Return, name)
                allowed = {"__len__": "len", "__iter__": "iter"}.get(node.name, "str")
                self.assertEqual(last.value.func.id, allowed, name)

    def test_strings_and_words(self):
        for name, text in self.sources.items():
            docs = {node.body[0].value.lineno for node in ast.walk(self.trees[name])
                    if isinstance(node, (ast.Module, ast.ClassDef, ast.FunctionDef))
                    and ast.get_docstring(node) is not None}
            for part in tokenize.generate_tokens(io.StringIO(text).readline):
                if part.type == tokenize.STRING:
                    self.assertNotIn("%", part.string, name)
                    rest = part.string.replace("\\\\", "").replace("\\n", "").replace("\\t", "")
                    self.assertNotIn("\\", rest, name)
                if part.type == tokenize.NAME or (
                        part.type == tokenize.STRING and part.start[0] not in docs):
                    for word in part.string.replace('"', " ").replace(".", " ").split():
                        self.assertNotIn(word, NEVER_WORDS, name)


if __name__ == "__main__":
    unittest.main()

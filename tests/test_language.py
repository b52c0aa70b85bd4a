"""The package keeps to the plain subset of Python in which it is written, as far as its syntax shows."""

import ast
import builtins
import pathlib
import re
import unittest

FOLDER = pathlib.Path(__file__).resolve().parent.parent / "lexiconlines"
BUILTINS = set("""
    len range enumerate zip min max sum abs sorted reversed int str bool list tuple dict set isinstance ord repr any all
    divmod pow map iter next super property staticmethod classmethod type NotImplemented Exception ValueError TypeError
    KeyError IndexError LookupError ZeroDivisionError ArithmeticError OverflowError RuntimeError NotImplementedError
    AttributeError StopIteration
""".split())
METHODS = set("""
    append clear copy count endswith extend find get index insert isalnum isalpha isdigit islower isspace isupper items
    join keys ljust lower lstrip partition pop remove replace reverse rfind rjust rpartition rsplit rstrip setdefault
    split splitlines startswith strip update upper values zfill bit_length add discard removeprefix removesuffix
""".split())
DUNDERS = set("""
    __init__ __eq__ __repr__ __str__ __len__ __enter__ __exit__ __call__ __iter__ __lt__ __le__ __gt__ __ge__ __ne__
    __add__ __sub__ __mul__ __neg__ __bool__ __contains__ __getitem__ __setitem__
""".split())
BANNED_WORDS = """
    typing enum Enum IntEnum StrEnum Flag IntFlag Generic Protocol ABC ABCMeta namedtuple NamedTuple TypedDict
    TYPE_CHECKING abstractmethod
""".split()
BANNED_NAMES = set("""
    register mro elements open input law version_info with_traceback add_note breakpoint builtins compile copyright
    credits delattr dir eval exec exit gc globals help id importlib license locals methodcaller attrgetter os quit
    setattr vars sys
""".split())
BANNED_BEGINNINGS = r"^(_wall|_pe_|_dcw_|_enum_|_cm_|_twin_re_|_lay_|_law_|_stub_|_sre|_WallAttr)"
BANNED_PRIVATE = r"^(_cold|_tuplegetter|_outside|_record|_written_out|_member_names)[0-9_]*$"
BANNED_NODES = (ast.AsyncFunctionDef, ast.AsyncFor, ast.AsyncWith, ast.Await, ast.Global, ast.Div, ast.MatMult,
                ast.AnnAssign)
ITERATORS = {"zip", "enumerate", "reversed", "range", "map"}
TAKERS = {"list", "tuple", "dict", "sorted", "sum", "any", "all", "enumerate", "zip", "min", "max", "len"}


def parents_of(tree):
    found = {}
    for node in ast.walk(tree):
        for child in ast.iter_child_nodes(node):
            found[child] = node
    return found


def called_name(node):
    return node.func.id if isinstance(node, ast.Call) and isinstance(node.func, ast.Name) else ""


def bound_names(tree):
    """Pairs of a name and the node that binds it, of all names but those of attributes."""
    for node in ast.walk(tree):
        if isinstance(node, ast.Name) and isinstance(node.ctx, ast.Store):
            yield node.id, node
        elif isinstance(node, (ast.FunctionDef, ast.ClassDef)):
            yield node.name, node
        elif isinstance(node, ast.arg):
            yield node.arg, node
        elif isinstance(node, ast.alias):
            yield node.asname or node.name, node
        elif isinstance(node, ast.ExceptHandler) and node.name:
            yield node.name, node


class LanguageTest(unittest.TestCase):

    def setUp(self):
        self.texts = {path.name: path.read_text() for path in sorted(FOLDER.glob("*.py"))}
        self.trees = {name: ast.parse(text) for name, text in self.texts.items()}

    def each(self, *kinds):
        """Triples of where a node stands, the node, and the node that holds it."""
        for name, tree in self.trees.items():
            parents = parents_of(tree)
            for node in ast.walk(tree):
                if isinstance(node, kinds):
                    yield f"{name}:{getattr(node, 'lineno', 0)}", node, parents.get(node)

    def test_files(self):
        found = [path for path in FOLDER.rglob("*") if "__pycache__" not in path.parts]
        self.assertEqual(sorted(path.name for path in found), sorted(self.texts))
        self.assertIn("__init__.py", self.texts)
        self.assertLessEqual(len(found), 100)
        for name in self.texts:
            self.assertRegex(name, r"^([a-z][a-z0-9_]*|__init__)\.py$")
            self.assertTrue(name == "__init__.py" or not hasattr(builtins, name[:-3]), name)

    def test_characters_and_sizes(self):
        for name, text in self.texts.items():
            self.assertRegex(text, r"^[ -~\n]*\Z", name)
            self.assertLessEqual(text.count("\n"), 399, name)
            for at, line in enumerate(text.split("\n")):
                self.assertLessEqual(len(line), 120, f"{name}:{at + 1}")
        for where, node, _ in self.each(ast.FunctionDef):
            self.assertLessEqual(node.end_lineno - node.lineno + 1, 40, where)

    def test_imports(self):
        for where, node, parent in self.each(ast.Import, ast.ImportFrom):
            self.assertIsInstance(node, ast.ImportFrom, where)
            self.assertIsInstance(parent, ast.Module, where)
            self.assertRegex(node.module, r"^lexiconlines\.[a-z]+$", where)
            self.assertEqual(node.level, 0, where)
            told = self.trees[node.module.partition(".")[2] + ".py"]
            defined = {item.name for item in told.body if isinstance(item, (ast.FunctionDef, ast.ClassDef))}
            defined |= {item.targets[0].id for item in told.body if isinstance(item, ast.Assign)}
            for alias in node.names:
                self.assertIsNone(alias.asname, where)
                self.assertIn(alias.name, defined, where)

    def test_imports_go_one_way(self):
        needs = {name: {node.module.partition(".")[2] + ".py" for node in tree.body if isinstance(node, ast.ImportFrom)}
                 for name, tree in self.trees.items()}
        while needs:
            free = [name for name, others in needs.items() if not others & set(needs)]
            self.assertTrue(free, f"these import from each other: {sorted(needs)}")
            for name in free:
                del needs[name]

    def test_imports_are_used(self):
        for name, tree in self.trees.items():
            used = {node.id for node in ast.walk(tree) if isinstance(node, ast.Name)}
            for node in tree.body:
                if isinstance(node, ast.ImportFrom):
                    for alias in node.names:
                        self.assertIn(alias.name, used, name)

    def test_module_level(self):
        allowed = (ast.ImportFrom, ast.FunctionDef, ast.ClassDef, ast.Assign)
        for name, tree in self.trees.items():
            for at, node in enumerate(tree.body):
                docstring = at == 0 and isinstance(node, ast.Expr) and isinstance(node.value, ast.Constant)
                self.assertTrue(docstring or isinstance(node, allowed), f"{name}:{node.lineno}")
            bound = [item.name for item in tree.body if isinstance(item, (ast.FunctionDef, ast.ClassDef))]
            bound += [item.targets[0].id for item in tree.body if isinstance(item, ast.Assign)]
            bound += [alias.name for item in tree.body if isinstance(item, ast.ImportFrom) for alias in item.names]
            self.assertEqual(len(bound), len(set(bound)), name)

    def test_functions_and_classes(self):
        for where, node, parent in self.each(ast.FunctionDef):
            for decorator in node.decorator_list:
                self.assertIsInstance(parent, ast.ClassDef, where)
                self.assertIn(ast.unparse(decorator), ("staticmethod", "classmethod", "property", f"{node.name}.setter"))
            if node.name.startswith("__"):
                self.assertIsInstance(parent, ast.ClassDef, where)
                self.assertIn(node.name, DUNDERS, where)
            for default in node.args.defaults + [it for it in node.args.kw_defaults if it is not None]:
                self.assertIsInstance(default, ast.Constant, where)
        for where, node, parent in self.each(ast.ClassDef):
            self.assertIsInstance(parent, ast.Module, where)
            self.assertEqual(node.decorator_list, [], where)

    def test_statements_and_expressions(self):
        for where, node, _ in self.each(*BANNED_NODES):
            self.fail(f"{where}: {node.__class__.__name__}")
        for where, node, parent in self.each(ast.Constant):
            self.assertNotIsInstance(node.value, (float, complex, bytes), where)
            if isinstance(node.value, str) and not isinstance(parent, ast.Expr):
                self.assertNotIn("%", node.value, where)
                self.assertNotRegex(node.value, r"^__.*__$", where)
                for word in BANNED_WORDS:
                    self.assertNotRegex(node.value, rf"\b{word}\b", where)
        for where, node, _ in self.each(ast.Compare):
            for operator, other in zip(node.ops, node.comparators):
                if isinstance(operator, (ast.Is, ast.IsNot)):
                    self.assertIsInstance(other, ast.Constant, where)
        for where, node, _ in self.each(ast.BinOp):
            if isinstance(node.op, ast.Pow):
                self.assertIsInstance(node.right, ast.Constant, where)
        for where, node, _ in self.each(ast.Raise):
            self.assertTrue(node.exc is None or called_name(node.exc), where)
        for where, node, _ in self.each(ast.ExceptHandler):
            self.assertNotIn(ast.unparse(node.type), ("Exception", "ValueError", "LookupError", "IndexError"), where)

    def test_names(self):
        for name, tree in self.trees.items():
            top = {item.name for item in tree.body if isinstance(item, ast.ClassDef)}
            top |= {alias.name for item in tree.body if isinstance(item, ast.ImportFrom) for alias in item.names}
            methods = {item for node in ast.walk(tree) if isinstance(node, ast.ClassDef) for item in node.body}
            for bound, node in bound_names(tree):
                where = f"{name}:{node.lineno} {bound}"
                self.assertRegex(bound, r"^(_|_?[A-Za-z][A-Za-z0-9_]*|__[a-z]+__)$", where)
                self.assertNotIn(bound, BANNED_NAMES, where)
                self.assertNotRegex(bound, BANNED_BEGINNINGS, where)
                self.assertNotRegex(bound, BANNED_PRIVATE, where)
                if node not in methods:
                    self.assertFalse(hasattr(builtins, bound), where)
                if not isinstance(node, (ast.alias, ast.ClassDef)):
                    self.assertNotIn(bound, top, where)

    def test_names_of_methods(self):
        """Properties, static methods and generators share their names with nothing else."""
        plain, special, generators, functions = set(), set(), set(), []
        for _, node, parent in self.each(ast.FunctionDef):
            functions.append(node.name)
            if any(isinstance(inner, (ast.Yield, ast.YieldFrom)) for inner in ast.walk(node)):
                generators.add(node.name)
            if isinstance(parent, ast.ClassDef):
                (special if node.decorator_list else plain).add(node.name)
        attributes = {node.attr for _, node, _ in self.each(ast.Attribute) if isinstance(node.ctx, ast.Store)}
        self.assertEqual(special & (plain | attributes | METHODS), set())
        self.assertEqual({name for name in generators if functions.count(name) > 1}, set())
        for where, node, _ in self.each(ast.ClassDef):
            methods = {item.name for item in node.body if isinstance(item, ast.FunctionDef)}
            held = {inner.attr for inner in ast.walk(node) if isinstance(inner, ast.Attribute)
                    and isinstance(inner.ctx, ast.Store)}
            self.assertEqual(methods & held, set(), where)

    def test_module_level_values(self):
        for where, node, parent in self.each(ast.List, ast.Dict, ast.Tuple):
            if isinstance(parent, ast.Assign) and parent in self.trees[where.partition(":")[0]].body:
                for inner in ast.walk(node):
                    self.assertTrue(inner is node or not isinstance(inner, (ast.List, ast.Dict)), where)

    def test_builtins(self):
        for name, tree in self.trees.items():
            bound = {it for it, _ in bound_names(tree)}
            for node in ast.walk(tree):
                if isinstance(node, ast.Name) and isinstance(node.ctx, ast.Load) and node.id not in bound:
                    self.assertIn(node.id, BUILTINS, f"{name}:{node.lineno}")

    def test_methods(self):
        own = {node.name for _, node, parent in self.each(ast.FunctionDef) if isinstance(parent, ast.ClassDef)}
        for where, node, _ in self.each(ast.Call):
            if isinstance(node.func, ast.Attribute):
                self.assertIn(node.func.attr, METHODS | own, where)

    def test_what_is_iterated(self):
        for where, node, parent in self.each(ast.Call):
            if called_name(node) in ITERATORS:
                at_once = isinstance(parent, (ast.For, ast.comprehension)) or called_name(parent) in TAKERS
                at_once = at_once or isinstance(parent, ast.Compare)
                self.assertTrue(at_once, where)
        for where, node, parent in self.each(ast.GeneratorExp):
            self.assertIn(called_name(parent), ("list", "tuple", "dict"), where)
        for where, node, parent in self.each(ast.Set, ast.SetComp):
            self.fail(f"{where}: give a dict of True, or sorted(set(..))")
        for where, node, parent in self.each(ast.Call):
            if called_name(node) == "set" and not isinstance(parent, ast.BinOp):
                self.assertIn(called_name(parent), ("sorted", "len"), where)

    def test_generators_are_iterated_at_once(self):
        names = {node.name for where, node, _ in self.each(ast.FunctionDef)
                 if any(isinstance(inner, (ast.Yield, ast.YieldFrom)) for inner in ast.walk(node))}
        for where, node, parent in self.each(ast.Call):
            if called_name(node) in names:
                at_once = isinstance(parent, (ast.For, ast.comprehension, ast.YieldFrom))
                at_once = at_once or called_name(parent) in TAKERS - {"len"}
                self.assertTrue(at_once, where)

    def test_arguments_beside_stars_and_of_generators(self):
        names = {node.name for where, node, _ in self.each(ast.FunctionDef)
                 if any(isinstance(inner, (ast.Yield, ast.YieldFrom)) for inner in ast.walk(node))}
        for where, node, _ in self.each(ast.Call):
            passed = node.args + [keyword.value for keyword in node.keywords]
            starred = any(isinstance(it, ast.Starred) for it in passed) or any(it.arg is None for it in node.keywords)
            if starred or called_name(node) in names:
                for it in passed:
                    it = it.value if isinstance(it, ast.Starred) else it
                    self.assertIsInstance(it, (ast.Name, ast.Attribute, ast.Constant), where)

    def test_handlers_and_with_blocks(self):
        for where, node, _ in self.each(ast.Try):
            for inner in node.finalbody:
                self.assertIsInstance(inner, ast.Assign, where)
                self.assertIsInstance(inner.value, ast.Constant, where)
        for where, node, _ in self.each(ast.FunctionDef):
            if node.name == "__exit__":
                for inner in node.body:
                    self.assertIsInstance(inner, ast.Assign, where)
                    self.assertIsInstance(inner.value, ast.Constant, where)
        for where, node, parent in self.each(ast.Call):
            if called_name(node) == "type":
                self.assertTrue(isinstance(parent, ast.Attribute) and parent.attr == "__name__", where)
        for where, node, _ in self.each(ast.Lambda, ast.Nonlocal, ast.Match, ast.NamedExpr):
            self.fail(f"{where}: not used here so far")

    def test_orders(self):
        """Classes with an order compare by one key, so that sorted, min and max may take anything."""
        for where, node, _ in self.each(ast.ClassDef):
            told = {item.name: ast.unparse(item.body[-1]) for item in node.body if isinstance(item, ast.FunctionDef)}
            if "__lt__" in told:
                self.assertEqual(node.bases, [], where)
                key = told["__lt__"].partition(" < ")[0].removeprefix("return ")
                other = key.replace("self.", "other.")
                self.assertEqual(told["__eq__"], f"return isinstance(other, {node.name}) and {key} == {other}")
                for name, sign in (("__lt__", "<"), ("__le__", "<="), ("__gt__", ">"), ("__ge__", ">=")):
                    self.assertEqual(told[name], f"return {key} {sign} {other}", where)

    def test_docstrings(self):
        for name, tree in self.trees.items():
            self.assertTrue(re.match(r"[A-Z].*\.", ast.get_docstring(tree) or ""), name)

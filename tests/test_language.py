"""The rules of the language that can be seen without running: L1, L2, L3, L4, L6 to L8, L10, L12, L15 to L17, L20, L25, L27."""

import ast
import builtins
import os
import re
import unittest

FOLDER = os.path.join(os.path.dirname(os.path.abspath(__file__)), "..", "claimduel")
LIBRARY = {
    "heapq": {"heappush", "heappop", "heapify", "heapreplace", "heappushpop"},
    "math": {"gcd", "lcm", "isqrt", "comb", "perm", "factorial"},
    "itertools": {"product", "combinations", "permutations", "chain", "accumulate", "pairwise", "islice", "zip_longest"},
    "collections": {"defaultdict"}, "__future__": {"annotations"},
}
BUILTINS = set("""len range enumerate zip min max sum abs sorted reversed int str bool bytes list tuple dict set
    isinstance ord repr any all divmod pow map iter next getattr hasattr setattr super property staticmethod
    classmethod NotImplemented True False None""".split())
ERRORS = set("""Exception ValueError TypeError KeyError IndexError LookupError ZeroDivisionError ArithmeticError
    OverflowError RuntimeError NotImplementedError AttributeError StopIteration""".split())
METHODS = set("""append clear copy count endswith extend find get index insert isalnum isalpha isdigit islower isspace
    isupper items join keys ljust lower lstrip partition pop remove replace reverse rfind rjust rpartition rsplit rstrip
    setdefault split splitlines startswith strip update upper values zfill bit_length add discard sort""".split())
DUNDERS = set("""__init__ __eq__ __repr__ __str__ __len__ __bool__ __lt__ __le__ __gt__ __ge__ __ne__ __call__ __iter__
    __contains__""".split())
NEVER = {"register", "mro", "elements", "open", "input", "law", "version_info", "with_traceback", "add_note"}
WORDS = r"\b(type|typing|enum|Enum|Flag|Generic|Protocol|ABC|namedtuple|NamedTuple|TypedDict)\b"


def files():
    return sorted(name for name in os.listdir(FOLDER) if not name.startswith("__pycache__"))


def source(name):
    with open(os.path.join(FOLDER, name), encoding="utf-8") as file:
        return file.read()


TREES = {name: ast.parse(source(name)) for name in files()}


def nodes(*kinds):
    """The file and the node, for each node of these kinds."""
    return [(name, node) for name, tree in TREES.items() for node in ast.walk(tree) if isinstance(node, kinds)]


def defined(tree):
    """The names that a file binds at module level by itself."""
    found = []
    for node in tree.body:
        if isinstance(node, (ast.FunctionDef, ast.ClassDef)):
            found.append(node.name)
        elif isinstance(node, ast.Assign):
            found.extend(target.id for target in node.targets)
    return found


def imported(tree):
    return [alias.name for node in tree.body if isinstance(node, ast.ImportFrom) for alias in node.names]


def strings_but_docstrings():
    docstrings = {id(node.body[0].value) for _, node in nodes(ast.Module, ast.FunctionDef, ast.ClassDef)
                  if node.body and isinstance(node.body[0], ast.Expr)}
    return [(name, node.value) for name, node in nodes(ast.Constant)
            if isinstance(node.value, str) and id(node) not in docstrings]


class LanguageTest(unittest.TestCase):
    def test_files(self):
        for name in files():
            self.assertRegex(name, r"^[a-z_0-9]+\.py$")
            lines = source(name).split("\n")
            self.assertLess(len(lines), 400, name)
            for line in lines:
                self.assertLessEqual(len(line), 120, (name, line))
                self.assertTrue(all(" " <= sign <= "~" for sign in line), (name, line))

    def test_functions_are_small(self):
        for name, node in nodes(ast.FunctionDef):
            self.assertLessEqual(node.end_lineno - node.lineno + 1, 40, (name, node.name))
            self.assertFalse([one for one in node.decorator_list if not isinstance(one, (ast.Name, ast.Attribute))])

    def test_imports(self):
        for name, node in nodes(ast.Import, ast.ImportFrom):
            self.assertIn(node, TREES[name].body)
            self.assertIsInstance(node, ast.ImportFrom)
            self.assertTrue(all(alias.asname is None and alias.name != "*" for alias in node.names))
            if node.module in LIBRARY:
                self.assertLessEqual({alias.name for alias in node.names}, LIBRARY[node.module])
            else:
                self.assertRegex(node.module, r"^claimduel\.\w+$")
                there = defined(TREES[node.module.split(".")[1] + ".py"])
                for alias in node.names:
                    self.assertIn(alias.name, there, (name, alias.name))

    def test_imports_are_used_and_go_one_way(self):
        above = {}
        for name, tree in TREES.items():
            used = {node.id for node in ast.walk(tree) if isinstance(node, ast.Name)}
            self.assertLessEqual(set(imported(tree)), used, name)
            above[name] = {node.module.split(".")[1] + ".py" for node in tree.body
                           if isinstance(node, ast.ImportFrom) and node.module.startswith("claimduel")}
        while above:
            free = [name for name, needs in above.items() if not needs & set(above)]
            self.assertTrue(free, above)
            for name in free:
                del above[name]

    def test_module_level(self):
        for name, tree in TREES.items():
            for at, node in enumerate(tree.body):
                docstring = at == 0 and isinstance(node, ast.Expr) and isinstance(node.value, ast.Constant)
                self.assertTrue(docstring or isinstance(node, (ast.ImportFrom, ast.FunctionDef, ast.ClassDef, ast.Assign)))
                if isinstance(node, ast.Assign):
                    self.assertEqual((len(node.targets), type(node.targets[0])), (1, ast.Name))
            bound = defined(tree) + imported(tree)
            self.assertEqual(len(bound), len(set(bound)), name)

    def test_no_other_statements(self):
        barred = (ast.Global, ast.AsyncFunctionDef, ast.Await, ast.GeneratorExp, ast.Div, ast.YieldFrom, ast.MatMult)
        self.assertEqual(nodes(*barred), [])
        for name, node in nodes(ast.Constant):
            self.assertNotIsInstance(node.value, (float, complex), name)

    def test_names(self):
        hidden = set(dir(builtins))
        for name, tree in TREES.items():
            foreign = set(imported(tree)) | {node.name for node in tree.body if isinstance(node, ast.ClassDef)}
            for node in ast.walk(tree):
                told = []
                if isinstance(node, ast.FunctionDef):
                    told = [one.arg for one in [*node.args.args, *node.args.kwonlyargs]]
                    self.assertFalse(node.name in NEVER, (name, node.name))
                    if node.name.startswith("__"):
                        self.assertIn(node.name, DUNDERS)
                elif isinstance(node, ast.Name) and isinstance(node.ctx, ast.Store):
                    told = [node.id]
                elif isinstance(node, ast.Name):
                    self.assertTrue(node.id not in hidden or node.id in BUILTINS | ERRORS, (name, node.id))
                for one in told:
                    self.assertNotIn(one, hidden | foreign | NEVER, name)
                    self.assertRegex(one, r"^(_|_?[a-zA-Z]\w*)$")
            for one in defined(tree):
                self.assertNotIn(one, hidden | NEVER, name)

    def test_methods_and_attributes(self):
        own = {node.name for _, node in nodes(ast.FunctionDef)}
        assigned = {node.attr for _, node in nodes(ast.Attribute) if isinstance(node.ctx, ast.Store)}
        for kind in (str, int, list, dict, set, bytes, tuple):
            self.assertFalse((assigned - {"count", "index", "title", "find", "get", "copy", "add"}) & set(dir(kind)))
        for name, node in nodes(ast.Call):
            if isinstance(node.func, ast.Attribute):
                self.assertIn(node.func.attr, METHODS | own, name)
                self.assertFalse(node.keywords and node.func.attr in METHODS - own, (name, node.func.attr))
        for name, node in nodes(ast.Attribute):
            self.assertIn(node.attr, METHODS | own | assigned | {"__class__", "__name__"}, name)

    def test_is(self):
        for name, node in nodes(ast.Compare):
            for operator, other in zip(node.ops, node.comparators):
                if isinstance(operator, (ast.Is, ast.IsNot)):
                    self.assertTrue(isinstance(other, ast.Constant) and other.value in (None, True, False), name)

    def test_strings(self):
        for name, value in strings_but_docstrings():
            self.assertNotIn("%", value, name)
            self.assertIsNone(re.search(WORDS, value), name)
            self.assertFalse(value.endswith(("._", ".__")) or value.startswith("__"), name)
        for name in files():
            code = "\n".join(line.split("#")[0] for line in source(name).split("\n"))
            self.assertIsNone(re.search(r"_wall|dataclass|overload|contextmanager", code), name)

    def test_errors(self):
        for name, node in nodes(ast.Raise):
            self.assertTrue(node.exc is None or isinstance(node.exc, ast.Call) and isinstance(node.exc.func, ast.Name))
        for name, node in nodes(ast.ExceptHandler):
            self.assertIsNotNone(node.type, name)


if __name__ == "__main__":
    unittest.main()

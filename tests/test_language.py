"""The package keeps to the rules of the language that can be seen in its text."""

import ast
import builtins
import os
import re
import unittest
import warnings

from tests.helpers import MODULES, PACKAGE

ALLOWED_IMPORTS = {"math": {"gcd", "lcm", "isqrt", "comb", "perm", "factorial"},
                   "itertools": {"product", "combinations", "permutations"}}
ALLOWED_BUILTINS = set("""len range enumerate zip min max sum abs sorted reversed int str bool bytes list tuple dict
set frozenset isinstance ord repr any all divmod ValueError True False None""".split())
METHODS = set("""append clear copy count endswith extend find get index insert isalnum isalpha isdigit islower isspace
isupper items join keys ljust lower lstrip partition pop remove replace reverse rfind rjust rpartition rsplit rstrip
setdefault split splitlines startswith strip update upper values zfill bit_length""".split())
BUILTIN_ATTRIBUTES = {name for kind in (str, int, list, dict, set, bytes, tuple) for name in dir(kind)}
BARRED = set("""register mro elements open input law version_info with_traceback add_note attrgetter breakpoint
builtins compile copyright credits delattr dir eval exec exit gc getattr globals hasattr help id importlib license
locals methodcaller os quit setattr super type vars sys iter next map property staticmethod classmethod args
_""".split()) - {"_"}
WORDS = re.compile(r"\b(type|typing|typing_extensions|enum|Enum|IntEnum|StrEnum|Flag|IntFlag|Generic|Protocol|ABC|"
                   r"ABCMeta|namedtuple|NamedTuple|TypedDict|TYPE_CHECKING|abstractmethod)\b|dataclass|overload|"
                   r"contextmanager|_wall")
NODES = (ast.Module, ast.Expr, ast.Constant, ast.ImportFrom, ast.alias, ast.FunctionDef, ast.arguments, ast.arg,
         ast.ClassDef, ast.Return, ast.If, ast.While, ast.For, ast.Break, ast.Continue, ast.Pass, ast.Raise, ast.Assign,
         ast.AugAssign, ast.Delete, ast.Name, ast.Load, ast.Store, ast.Del, ast.Call, ast.keyword, ast.Attribute,
         ast.Subscript, ast.Slice, ast.Tuple, ast.List, ast.Dict, ast.Starred, ast.BinOp, ast.UnaryOp, ast.BoolOp,
         ast.Compare, ast.IfExp, ast.ListComp, ast.DictComp, ast.comprehension, ast.Add, ast.Sub, ast.Mult,
         ast.FloorDiv, ast.Mod, ast.Pow, ast.BitAnd, ast.USub, ast.Not, ast.And, ast.Or, ast.Eq, ast.NotEq, ast.Lt, ast.LtE,
         ast.Gt, ast.GtE, ast.Is, ast.IsNot, ast.In, ast.NotIn, ast.Try, ast.ExceptHandler, ast.JoinedStr,
         ast.FormattedValue)


def sources():
    for name in sorted(os.listdir(PACKAGE)):
        if name != "__pycache__":
            with open(os.path.join(PACKAGE, name), encoding="utf-8") as held:
                yield name, held.read()


def bound_names(function):
    """Parameters and local names of a function, those of comprehensions, too."""
    found = [arg.arg for arg in function.args.args]
    for node in ast.walk(function):
        if isinstance(node, ast.Name) and isinstance(node.ctx, ast.Store):
            found.append(node.id)
    return found


class LanguageTest(unittest.TestCase):
    def trees(self):
        for name, text in sources():
            with warnings.catch_warnings():
                warnings.simplefilter("error")
                yield name, text, ast.parse(text)

    def functions(self):
        for name, _, tree in self.trees():
            for node in ast.walk(tree):
                if isinstance(node, ast.FunctionDef):
                    yield name, node, tree

    def test_files(self):
        names = [name for name, _ in sources()]
        self.assertLessEqual(len(names), 100)
        for name, text in sources():
            self.assertRegex(name, r"^[a-z_][a-z0-9_]*\.py$")
            self.assertTrue(set(text) <= set(map(chr, range(32, 127))) | {"\n"}, name)
            lines = text.split("\n")
            self.assertLessEqual(len(lines), 399, name)
            for number, line in enumerate(lines, 1):
                self.assertLessEqual(len(line), 120, f"{name}:{number}")
                self.assertEqual(line, line.rstrip(), f"{name}:{number}")

    def test_init_defines_nothing(self):
        text = dict(sources())["__init__.py"]
        for node in ast.parse(text).body:
            self.assertTrue(isinstance(node, ast.Expr) and isinstance(node.value, ast.Constant))

    def test_nodes(self):
        for name, _, tree in self.trees():
            for node in ast.walk(tree):
                self.assertIsInstance(node, NODES, f"{name}:{getattr(node, 'lineno', 0)}")
                if isinstance(node, ast.Constant):
                    self.assertIsInstance(node.value, (int, str, type(None)), name)
                if isinstance(node, ast.FunctionDef):
                    self.assertEqual(node.decorator_list, [], name)
                    self.assertIsNone(node.args.vararg or node.args.kwarg or node.returns, name)
                    self.assertEqual(node.args.defaults + node.args.kwonlyargs + node.args.posonlyargs, [], name)

    def test_strings(self):
        for name, text, tree in self.trees():
            docs = {id(node.body[0].value) for node in ast.walk(tree)
                    if isinstance(node, (ast.Module, ast.FunctionDef, ast.ClassDef)) and ast.get_docstring(node)}
            for node in ast.walk(tree):
                if isinstance(node, ast.Constant) and isinstance(node.value, str):
                    self.assertNotIn("%", node.value, name)
                    self.assertNotIn("__", node.value, name)
                    if id(node) not in docs:
                        self.assertIsNone(WORDS.search(node.value), f"{name}: {node.value}")
            self.assertNotIn("_wall", text)

    def test_function_lengths(self):
        for name, function, _ in self.functions():
            self.assertLessEqual(function.end_lineno - function.lineno + 1, 40, f"{name}: {function.name}")

    def test_nothing_is_nested(self):
        for name, function, _ in self.functions():
            inner = [node for node in ast.walk(function)
                     if isinstance(node, (ast.FunctionDef, ast.ClassDef)) and node is not function]
            self.assertEqual(inner, [], f"{name}: {function.name}")

    def test_module_level(self):
        for name, _, tree in self.trees():
            bound = []
            for at, node in enumerate(tree.body):
                if isinstance(node, ast.Expr):
                    self.assertTrue(at == 0 and isinstance(node.value, ast.Constant), name)
                elif isinstance(node, ast.Assign):
                    self.assertEqual(len(node.targets), 1)
                    bound.append(node.targets[0].id)
                elif isinstance(node, ast.ImportFrom):
                    bound.extend([alias.name for alias in node.names])
                else:
                    self.assertIsInstance(node, (ast.FunctionDef, ast.ClassDef), name)
                    bound.append(node.name)
            self.assertEqual(len(bound), len(set(bound)), name)
            for word in bound:
                self.assertFalse(hasattr(builtins, word), f"{name}: {word}")
                self.assertNotIn(word, BARRED, name)

    def test_imports(self):
        defined = {}
        for name, _, tree in self.trees():
            defined[name[:-3]] = {node.name for node in tree.body
                                  if isinstance(node, (ast.FunctionDef, ast.ClassDef))}
            defined[name[:-3]] |= {node.targets[0].id for node in tree.body if isinstance(node, ast.Assign)}
        links = {}
        for name, _, tree in self.trees():
            links[name[:-3]] = []
            for node in tree.body:
                if not isinstance(node, ast.ImportFrom):
                    continue
                self.assertEqual(node.level, 0)
                words = {alias.name for alias in node.names}
                self.assertTrue(all(alias.asname is None for alias in node.names))
                if node.module in ALLOWED_IMPORTS:
                    self.assertLessEqual(words, ALLOWED_IMPORTS[node.module])
                    continue
                module = node.module.removeprefix("pacerose.")
                self.assertLessEqual(words, defined[module], name)
                links[name[:-3]].append(module)
        self.check_order(links)

    def check_order(self, links):
        """No two files import from each other; those of the interface only from ones named before."""
        def reached(name, seen):
            for module in links[name]:
                self.assertNotIn(module, seen, "a circle of imports")
                yield module
                yield from reached(module, seen + [module])
        for name in links:
            for module in reached(name, [name]):
                if name in MODULES and module in MODULES:
                    self.assertLess(MODULES.index(module), MODULES.index(name), f"{name} imports {module}")

    def test_unused_imports(self):
        for name, _, tree in self.trees():
            used = {node.id for node in ast.walk(tree) if isinstance(node, ast.Name)}
            for node in tree.body:
                if isinstance(node, ast.ImportFrom):
                    self.assertEqual({alias.name for alias in node.names} - used, set(), name)

    def test_local_names(self):
        for name, function, tree in self.functions():
            taken = {alias.name for node in tree.body if isinstance(node, ast.ImportFrom) for alias in node.names}
            taken |= {node.name for node in tree.body if isinstance(node, ast.ClassDef)}
            for word in bound_names(function):
                where = f"{name}: {function.name}: {word}"
                self.assertNotIn(word, taken, where)
                self.assertFalse(hasattr(builtins, word), where)
                self.assertNotIn(word, BARRED, where)
                self.assertRegex(word, r"^(_|_?[a-zA-Z][a-zA-Z0-9_]*)$", where)

    def test_called_names(self):
        for name, function, tree in self.functions():
            local = set(bound_names(function))
            for node in ast.walk(function):
                if isinstance(node, ast.Call) and isinstance(node.func, ast.Name):
                    self.assertNotIn(node.func.id, local, f"{name}: {function.name}")
                if isinstance(node, ast.Name) and hasattr(builtins, node.id):
                    self.assertIn(node.id, ALLOWED_BUILTINS, f"{name}: {function.name}: {node.id}")
                if isinstance(node, ast.Name) and isinstance(node.ctx, ast.Load):
                    self.assertNotEqual(node.id, "_", name)

    def test_attributes_and_methods(self):
        own = set()
        for name, _, tree in self.trees():
            for node in ast.walk(tree):
                if isinstance(node, ast.ClassDef):
                    methods = [part.name for part in node.body if isinstance(part, ast.FunctionDef)]
                    fields = {part.attr for part in ast.walk(node)
                              if isinstance(part, ast.Attribute) and isinstance(part.ctx, ast.Store)}
                    self.assertEqual(len(methods), len(set(methods)), node.name)
                    self.assertEqual(fields & set(methods), set(), node.name)
                    plain = {method for method in methods if not method.startswith("__")}
                    self.assertEqual((plain | fields) & BUILTIN_ATTRIBUTES, set(), node.name)
                    self.assertLessEqual(set(methods) - plain, {"__init__", "__eq__", "__len__"})
                    own |= plain | fields
        for name, _, tree in self.trees():
            for node in ast.walk(tree):
                if isinstance(node, ast.Attribute) and isinstance(node.ctx, ast.Load):
                    self.assertIn(node.attr, own | METHODS, name)

    def test_is_and_sets_and_lambdas(self):
        for name, _, tree in self.trees():
            for node in ast.walk(tree):
                if isinstance(node, ast.Compare):
                    for sign, right in zip(node.ops, node.comparators):
                        if isinstance(sign, (ast.Is, ast.IsNot)):
                            self.assertIn(getattr(right, "value", 0), (None, True, False), name)
                if isinstance(node, ast.Call) and isinstance(node.func, ast.Name) and node.func.id in ("set", "zip"):
                    self.assertEqual(node.keywords, [])
                if isinstance(node, ast.Call) and getattr(node.func, "id", "") in ("sorted", "len"):
                    self.assertEqual(node.keywords, [])

    def test_sets_are_sorted_at_once(self):
        for name, _, tree in self.trees():
            inside = set()
            for node in ast.walk(tree):
                if isinstance(node, ast.Call) and getattr(node.func, "id", "") in ("sorted", "len"):
                    inside |= {id(part) for part in node.args}
            for node in ast.walk(tree):
                if isinstance(node, ast.Call) and getattr(node.func, "id", "") == "set":
                    self.assertIn(id(node), inside, f"{name}:{node.lineno}")

    def test_views_are_used_at_once(self):
        takers = ("list", "tuple", "dict", "sorted", "sum", "any", "all", "enumerate", "zip", "min", "max", "combinations")
        for name, _, tree in self.trees():
            fine = set()
            for node in ast.walk(tree):
                if isinstance(node, (ast.For, ast.comprehension)):
                    fine.add(id(node.iter))
                if isinstance(node, ast.Call) and getattr(node.func, "id", "") in takers and node.args:
                    fine.add(id(node.args[0]))
            for node in ast.walk(tree):
                if isinstance(node, ast.Call) and getattr(node.func, "id", "") in ("zip", "enumerate", "range",
                                                                                  "reversed"):
                    self.assertIn(id(node), fine, f"{name}:{node.lineno}")
                if isinstance(node, ast.Call) and getattr(node.func, "attr", "") in ("items", "keys", "values"):
                    self.assertIn(id(node), fine, f"{name}:{node.lineno}")

    def test_combinations_are_iterated_at_once(self):
        for name, _, tree in self.trees():
            fine = set()
            for node in ast.walk(tree):
                if isinstance(node, (ast.For, ast.comprehension)):
                    fine.add(id(node.iter))
            for node in ast.walk(tree):
                if isinstance(node, ast.Call) and getattr(node.func, "id", "") in ALLOWED_IMPORTS["itertools"]:
                    self.assertIn(id(node), fine, f"{name}:{node.lineno}")
                    many = node.args[1]
                    self.assertIsInstance(many, (ast.Constant, ast.Name), f"{name}:{node.lineno}")

    def test_loops_leave_alone_what_they_go_over(self):
        for name, function, _ in self.functions():
            for node in ast.walk(function):
                if isinstance(node, ast.For):
                    over = {ast.dump(part).replace("Store()", "Load()") for part in ast.walk(node.iter)
                            if isinstance(part, (ast.Name, ast.Attribute))}
                    for part in ast.walk(node):
                        where = f"{name}:{getattr(part, 'lineno', 0)}"
                        if isinstance(part, ast.Subscript) and isinstance(part.ctx, (ast.Store, ast.Del)):
                            self.assertNotIn(ast.dump(part.value), over, where)
                        if isinstance(part, ast.Call) and getattr(part.func, "attr", "") in (
                                "append", "extend", "pop", "insert", "remove", "clear", "update", "setdefault"):
                            self.assertNotIn(ast.dump(part.func.value), over, where)
                        if isinstance(part, ast.Name) and isinstance(part.ctx, ast.Store) and part not in ast.walk(
                                node.target):
                            self.assertNotIn(ast.dump(ast.Name(part.id, ast.Load())), over, where)


if __name__ == "__main__":
    unittest.main()

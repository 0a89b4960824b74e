"""Whether the files of the package keep to the subset of the language that the program is written in."""

import ast
import builtins
import os
import unittest

ROOT = os.path.dirname(os.path.dirname(os.path.abspath(__file__)))
PACKAGE = os.path.join(ROOT, "fourthlike")
BUILTINS = set(
    "len range enumerate zip min max sum abs sorted reversed int str bool list tuple dict set isinstance ord repr any"
    " all divmod getattr hasattr setattr staticmethod ValueError TypeError KeyError IndexError LookupError"
    " ZeroDivisionError ArithmeticError OverflowError RuntimeError NotImplementedError AttributeError StopIteration"
    " NotImplemented type True False None".split())
LIBRARY = {
    "heapq": {"heappush", "heappop", "heapify", "heapreplace", "heappushpop"},
    "math": {"gcd", "lcm", "isqrt", "comb", "perm", "factorial"},
    "itertools": {"product", "combinations", "permutations"},
}
METHODS = set(
    "append clear copy count endswith extend find get index insert isalnum isalpha isdigit islower isspace isupper"
    " items join keys ljust lower lstrip partition pop remove replace reverse rfind rjust rpartition rsplit rstrip"
    " setdefault split splitlines startswith strip update upper values zfill bit_length add discard".split())
BAD_ATTRIBUTES = set(
    "items keys values pop update append clear extend insert remove reverse setdefault sort args encode decode hex"
    " fromhex format format_map mro".split())
BAD_NAMES = set(
    "register mro elements open input law version_info with_traceback add_note attrgetter breakpoint builtins compile"
    " copyright credits delattr dir eval exec exit gc globals help id importlib license locals methodcaller os quit"
    " super vars sys".split())
BAD_WORDS = set(
    "typing typing_extensions enum Enum IntEnum StrEnum Flag IntFlag Generic Protocol ABC ABCMeta namedtuple"
    " NamedTuple TypedDict TYPE_CHECKING abstractmethod dataclass overload contextmanager".split())
DUNDERS = set("__init__ __eq__ __repr__ __str__ __len__ __bool__ __call__ __contains__".split())
AT_ONCE = {"zip", "enumerate", "reversed", "range"}
TAKERS = {"list", "tuple", "dict", "sorted", "sum", "any", "all", "enumerate", "zip", "min", "max", "len", "reversed"}
STATEMENTS = (
    ast.Assign, ast.AugAssign, ast.If, ast.While, ast.For, ast.Return, ast.Break, ast.Continue, ast.Pass, ast.Raise,
    ast.Assert, ast.Delete, ast.Nonlocal, ast.Try, ast.Expr, ast.FunctionDef, ast.ClassDef, ast.ImportFrom)


def package_files():
    """The names of the files of the package, with their texts and trees."""
    found = []
    for name in sorted(os.listdir(PACKAGE)):
        if name == "__pycache__":
            continue
        with open(os.path.join(PACKAGE, name), encoding="ascii", newline="") as file:
            text = file.read()
        found.append((name, text, ast.parse(text)))
    return found


FILES = package_files()


def parents_of(tree):
    """A dict from each node to the node that it stands in."""
    return {child: node for node in ast.walk(tree) for child in ast.iter_child_nodes(node)}


def functions_in(tree):
    return [node for node in ast.walk(tree) if isinstance(node, ast.FunctionDef)]


def classes_in(tree):
    return [node for node in ast.walk(tree) if isinstance(node, ast.ClassDef)]


def docstrings_in(tree):
    """The nodes of the docstrings."""
    found = []
    for node in ast.walk(tree):
        if isinstance(node, (ast.Module, ast.ClassDef, ast.FunctionDef)) and ast.get_docstring(node) is not None:
            found.append(node.body[0].value)
    return found


def local_names(function):
    """The parameters and the local variables of a function."""
    spec = function.args
    names = [one.arg for one in spec.posonlyargs + spec.args + spec.kwonlyargs + [spec.vararg, spec.kwarg] if one]
    return names + [node.id for node in ast.walk(function)
                    if isinstance(node, ast.Name) and isinstance(node.ctx, ast.Store)]


def is_of_sets(node):
    """Whether it is the call of set, or several such, joined by - & | ^."""
    if isinstance(node, ast.BinOp):
        joined = isinstance(node.op, (ast.Sub, ast.BitAnd, ast.BitOr, ast.BitXor))
        return joined and is_of_sets(node.left) and is_of_sets(node.right)
    return isinstance(node, ast.Call) and isinstance(node.func, ast.Name) and node.func.id == "set"


def own_classes():
    return {node.name for _, _, tree in FILES for node in classes_in(tree)}


def file_by_file(check):
    """The test that makes this check of each file."""
    def test(self):
        for name, text, tree in FILES:
            with self.subTest(file=name):
                check(self, name, text, tree)
    return test


class LanguageTest(unittest.TestCase):
    def test_files_and_characters(self):
        self.assertLessEqual(len(FILES), 100)
        for name, text, tree in FILES:
            self.assertTrue(name.endswith(".py") and name == name.lower(), name)
            self.assertNotIn("\t", text)
            self.assertTrue(all(sign == "\n" or " " <= sign <= "~" for sign in text))
            self.assertLessEqual(len(text.splitlines()), 399)
            self.assertLessEqual(max([len(line) for line in text.splitlines()], default=0), 120)
            self.assertTrue(text.endswith("\n") and not text.endswith("\n\n"))

    @file_by_file
    def test_sizes_of_functions(self, name, text, tree):
        for node in functions_in(tree):
            self.assertLessEqual(node.end_lineno - node.lineno + 1, 40, node.name)

    def test_imports(self):
        defined = {name[:-3]: {node.name for node in tree.body if isinstance(node, (ast.FunctionDef, ast.ClassDef))}
                   | {target.id for node in tree.body if isinstance(node, ast.Assign) for target in node.targets}
                   for name, _, tree in FILES}
        uses = {}
        for name, text, tree in FILES:
            for node in ast.walk(tree):
                self.assertNotIsInstance(node, ast.Import)
                if not isinstance(node, ast.ImportFrom):
                    continue
                self.assertIn(node, tree.body)
                self.assertEqual(node.level, 0)
                if node.module in LIBRARY:
                    wanted = LIBRARY[node.module]
                else:
                    self.assertTrue(node.module.startswith("fourthlike."), node.module)
                    wanted = defined[node.module[len("fourthlike."):]]
                    uses.setdefault(name[:-3], []).append(node.module[len("fourthlike."):])
                for alias in node.names:
                    self.assertIsNone(alias.asname)
                    self.assertIn(alias.name, wanted)
                    count = sum(isinstance(one, ast.Name) and one.id == alias.name for one in ast.walk(tree))
                    self.assertGreater(count, 0, f"{alias.name} is not used")
        done = {}

        def depth(file, ahead):
            self.assertNotIn(file, ahead, "a circle of imports")
            if file not in done:
                done[file] = [depth(used, ahead + [file]) for used in uses.get(file, [])]

        for file in defined:
            depth(file, [])

    @file_by_file
    def test_module_level(self, name, text, tree):
        names = []
        for at, node in enumerate(tree.body):
            if isinstance(node, ast.Expr):
                self.assertEqual(at, 0)
                self.assertIsInstance(node.value.value, str)
            elif isinstance(node, ast.Assign):
                self.assertEqual(len(node.targets), 1)
                self.is_plain(node.value, names)
                names.append(node.targets[0].id)
            elif isinstance(node, ast.ImportFrom):
                names.extend(alias.name for alias in node.names)
            else:
                self.assertIsInstance(node, (ast.FunctionDef, ast.ClassDef))
                names.append(node.name)
        self.assertEqual(len(names), len(set(names)))

    def is_plain(self, node, names):
        """Fails unless it is a plain value, or a dict of functions that are defined above."""
        if isinstance(node, ast.Dict) and node.values and isinstance(node.values[0], ast.Name):
            self.assertTrue(all(isinstance(one, ast.Constant) for one in node.keys))
            for one in node.values:
                self.assertIn(one.id, names)
        else:
            ast.literal_eval(node)

    def test_statements_and_expressions(self):
        barred = (ast.Global, ast.Lambda, ast.Await, ast.Yield, ast.YieldFrom, ast.GeneratorExp, ast.Pow, ast.Div,
                  ast.MatMult, ast.JoinedStr, ast.AnnAssign, ast.With, ast.NamedExpr, ast.AsyncFunctionDef, ast.Match)
        for name, text, tree in FILES:
            for node in ast.walk(tree):
                if isinstance(node, ast.stmt):
                    self.assertIsInstance(node, STATEMENTS)
                self.assertNotIsInstance(node, barred)
                if isinstance(node, ast.Constant):
                    self.assertNotIsInstance(node.value, (float, complex))
                if isinstance(node, ast.Starred):
                    where = parents_of(tree)[node]
                    if isinstance(where, ast.Call):
                        self.assertIsInstance(node.value, ast.Name)
                        self.assertIsInstance(where.func, ast.Attribute)
                    else:
                        self.assertIsInstance(where, (ast.Tuple, ast.List))

    @file_by_file
    def test_strings(self, name, text, tree):
        docs = docstrings_in(tree)
        for node in ast.walk(tree):
            if isinstance(node, ast.Constant) and isinstance(node.value, str) and node not in docs:
                self.assertNotIn("%", node.value)
                self.assertFalse(node.value.endswith(("._", ".__")))
                self.assertFalse(node.value.startswith("__"))
        for word in BAD_WORDS:
            code = "\n".join(line.split("#")[0] for line in text.splitlines())
            self.assertNotIn(word, code.replace("(", " ").replace(")", " ").split())

    def test_names(self):
        classes = own_classes()
        for name, text, tree in FILES:
            taken = {alias.name for node in tree.body if isinstance(node, ast.ImportFrom) for alias in node.names}
            taken |= {node.name for node in classes_in(tree)}
            module = {node.name for node in functions_in(tree)}
            for node in functions_in(tree):
                for name in local_names(node):
                    self.assertNotIn(name, taken, node.name)
                    self.assertFalse(hasattr(builtins, name), name)
                    self.assertNotIn(name, BAD_NAMES)
                    self.assertFalse(name.startswith("__"))
                    self.assertFalse(name.startswith("_") and name != "_")
                if not node.name.startswith("__"):
                    self.assertFalse(hasattr(builtins, node.name), node.name)
                    self.assertNotIn(node.name, BAD_NAMES)
                else:
                    self.assertIn(node.name, DUNDERS)
            for node in ast.walk(tree):
                if isinstance(node, ast.Name) and hasattr(builtins, node.id) and node.id not in module:
                    self.assertIn(node.id, BUILTINS)
                if isinstance(node, ast.Name) and node.id == "_":
                    self.assertIsInstance(node.ctx, ast.Store)
                if isinstance(node, ast.Attribute):
                    self.assertNotIn(node.attr, classes)

    def test_classes_are_not_passed_on(self):
        classes = own_classes()
        for name, text, tree in FILES:
            parents = parents_of(tree)
            for node in ast.walk(tree):
                if not isinstance(node, ast.Name) or node.id not in classes:
                    continue
                where = parents[node]
                if isinstance(where, ast.Call) and where.func is not node:
                    self.assertEqual(where.func.id, "isinstance")
                elif isinstance(where, ast.Attribute):
                    self.assertIn(where.attr, ("__init__", "read", "of"))
                elif isinstance(where, ast.Compare):
                    self.assertEqual(where.left.func.id, "type")
                else:
                    self.assertIsInstance(where, (ast.Call, ast.ClassDef, ast.Raise, ast.ExceptHandler))

    def test_methods_and_attributes(self):
        methods = {}
        attributes = set()
        for _, _, tree in FILES:
            for node in classes_in(tree):
                # A name may be a method of one class and an attribute of another one, not both of one.
                own = {one.name for one in node.body if isinstance(one, ast.FunctionDef)}
                stored = {one.attr for one in ast.walk(node)
                          if isinstance(one, ast.Attribute) and isinstance(one.ctx, ast.Store)}
                self.assertFalse(own & stored)
                self.assertFalse(own & {"word", "parts"})
                plain = [one for one in node.body if isinstance(one, ast.FunctionDef)]
                names = [one.name for one in plain]
                self.assertEqual(len(names), len(set(names)))
                for one in plain:
                    decorators = [word.id for word in one.decorator_list]
                    self.assertIn(decorators, ([], ["staticmethod"]))
                    if not one.name.startswith("__"):
                        methods.setdefault(one.name, set()).add(tuple(decorators))
            for node in ast.walk(tree):
                if isinstance(node, ast.Attribute) and isinstance(node.ctx, ast.Store):
                    self.assertIn(node.value.id, ("self", "table"))
                    attributes.add(node.attr)
        for shared in attributes & set(methods):
            self.assertEqual(methods[shared], {()}, shared)
        self.assertEqual(attributes & set(methods), {"outcome", "place", "told"})
        self.assertFalse(attributes & BAD_ATTRIBUTES)
        self.assertEqual(set(methods) & METHODS, {"join"})
        for name, kinds in methods.items():
            self.assertEqual(len(kinds), 1, name)
        for _, _, tree in FILES:
            for node in ast.walk(tree):
                if isinstance(node, ast.Attribute) and isinstance(node.ctx, ast.Load):
                    self.assertIn(node.attr, attributes | set(methods) | METHODS | {"__init__"})

    @file_by_file
    def test_things_iterated_at_once(self, name, text, tree):
        parents = parents_of(tree)
        for node in ast.walk(tree):
            if not isinstance(node, ast.Call):
                continue
            called = node.func.id if isinstance(node.func, ast.Name) else node.func.attr
            if called not in AT_ONCE | {"items", "keys", "values", "combinations", "product", "permutations"}:
                continue
            where = parents[node]
            if isinstance(where, (ast.For, ast.comprehension)):
                self.assertIs(where.iter, node)
            else:
                self.assertIsInstance(where, ast.Call)
                self.assertIn(where.func.id, TAKERS | ({"combinations"} if called == "range" else set()))

    def test_what_is_iterated_is_not_changed(self):
        changing = METHODS & set("append clear extend insert pop remove reverse setdefault update".split())
        for name, text, tree in FILES:
            for loop in [node for node in ast.walk(tree) if isinstance(node, ast.For)]:
                over = {node.id for node in ast.walk(loop.iter) if isinstance(node, ast.Name)}
                for node in ast.walk(loop):
                    if isinstance(node, ast.Call) and isinstance(node.func, ast.Attribute):
                        if node.func.attr in changing and isinstance(node.func.value, ast.Name):
                            self.assertNotIn(node.func.value.id, over)
                    if isinstance(node, ast.Subscript) and isinstance(node.ctx, (ast.Store, ast.Del)):
                        self.assertNotIn(getattr(node.value, "id", None), over)
                    if isinstance(node, ast.Call) and isinstance(node.func, ast.Name):
                        if node.func.id in ("heappush", "heappop"):
                            self.assertNotIn(node.args[0].id, over)

    @file_by_file
    def test_sets(self, name, text, tree):
        parents = parents_of(tree)
        for function in functions_in(tree):
            stored = {}
            for node in ast.walk(function):
                if isinstance(node, (ast.Set, ast.SetComp)):
                    self.fail("no set is written so here")
                if isinstance(node, ast.Call) and isinstance(node.func, ast.Name) and node.func.id == "set":
                    where = parents[node]
                    while isinstance(where, ast.BinOp):
                        self.assertTrue(is_of_sets(where))
                        where = parents[where]
                    if isinstance(where, ast.Compare):
                        self.assertEqual(len(where.ops), 1)
                        self.assertIsInstance(where.ops[0], (ast.Eq, ast.NotEq))
                        self.assertTrue(is_of_sets(where.left) and is_of_sets(where.comparators[0]))
                    elif isinstance(where, ast.Assign):
                        self.assertIs(where.value, node)
                        stored[where.targets[0].id] = stored.get(where.targets[0].id, 0) + 1
                    else:
                        self.assertIn(where.func.id, ("sorted", "len"))
            self.assertTrue(all(many == 1 for many in stored.values()))
            for node in ast.walk(function):
                if isinstance(node, ast.Name) and node.id in stored and isinstance(node.ctx, ast.Load):
                    where = parents[node]
                    if isinstance(where, ast.Attribute):
                        self.assertIn(where.attr, ("add", "discard"))
                    else:
                        self.assertIsInstance(where, ast.Compare)

    def test_calls_of_builtins(self):
        keywords = {"sorted": {"key", "reverse"}, "min": {"key", "default"}, "max": {"key", "default"},
                    "sum": {"start"}, "enumerate": {"start"}}
        for name, text, tree in FILES:
            parents = parents_of(tree)
            for node in ast.walk(tree):
                if isinstance(node, ast.Name) and node.id in BUILTINS and isinstance(node.ctx, ast.Load):
                    where = parents[node]
                    if node.id in ("int", "str", "bool", "list", "tuple", "dict", "staticmethod", "ValueError"):
                        continue
                    self.assertIsInstance(where, ast.Call)
                    self.assertIs(where.func, node)
                    for keyword in where.keywords:
                        self.assertIn(keyword.arg, keywords.get(node.id, set()))

    @file_by_file
    def test_is(self, name, text, tree):
        for node in ast.walk(tree):
            if isinstance(node, ast.Compare) and any(isinstance(op, (ast.Is, ast.IsNot)) for op in node.ops):
                right = node.comparators[0]
                typed = isinstance(node.left, ast.Call) and node.left.func.id == "type"
                self.assertTrue(typed or isinstance(right, ast.Constant) and right.value in (None, True, False))

    @file_by_file
    def test_errors(self, name, text, tree):
        for node in ast.walk(tree):
            if isinstance(node, ast.Try):
                # Own errors alone are caught, and passed on with the line that raised them.
                self.assertEqual([handler.type.id for handler in node.handlers], ["LikeError"])
                self.assertFalse(node.orelse or node.finalbody)
            if isinstance(node, ast.Raise):
                self.assertIsNone(node.cause)
                self.assertIsInstance(node.exc, ast.Call)
                self.assertFalse(node.exc.keywords)

    @file_by_file
    def test_double_underscore_methods(self, name, text, tree):
        for function in functions_in(tree):
            if function.name == "__init__":
                self.assertFalse([node for node in ast.walk(function) if isinstance(node, ast.Return)])
            elif function.name in DUNDERS - {"__call__"}:
                body = [node for node in function.body
                        if not (isinstance(node, ast.Expr) and isinstance(node.value, ast.Constant))]
                self.assertEqual([type(node) for node in body], [ast.Return])

    @file_by_file
    def test_names_are_explained(self, name, text, tree):
        self.assertIsNotNone(ast.get_docstring(tree))
        for node in functions_in(tree) + classes_in(tree):
            if not node.name.startswith("__"):
                self.assertIsNotNone(ast.get_docstring(node), node.name)


if __name__ == "__main__":
    unittest.main()

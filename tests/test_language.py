"""The files of the package keep the rules of LANGUAGE.md, as far as a short look at their trees can tell."""

import ast
import builtins
import os
import re
import unittest
import warnings

TOP = os.path.join(os.path.dirname(os.path.dirname(os.path.abspath(__file__))), "watchkinds")
LIBRARY = {"heapq": {"heappush", "heappop", "heapify", "heapreplace", "heappushpop"},
           "math": {"gcd", "lcm", "isqrt", "comb", "perm", "factorial"}}
BUILTINS = set("""len range enumerate zip min max sum abs sorted reversed int str bool bytes list tuple dict set
isinstance ord repr any all divmod Exception ValueError TypeError KeyError IndexError LookupError ZeroDivisionError
ArithmeticError OverflowError RuntimeError NotImplementedError AttributeError StopIteration NotImplemented iter next
property staticmethod classmethod super map""".split())
METHODS = set("""append clear copy count endswith extend find get index insert isalnum isalpha isdigit islower isspace
isupper items join keys ljust lower lstrip partition pop remove replace reverse rfind rjust rpartition rsplit rstrip
setdefault split splitlines startswith strip update upper values zfill bit_length removeprefix removesuffix isascii
swapcase add discard""".split())
DUNDERS = set("""__init__ __eq__ __repr__ __str__ __len__ __enter__ __exit__ __call__ __iter__ __lt__ __le__ __gt__
__ge__ __ne__ __add__ __sub__ __and__ __or__ __xor__ __invert__ __contains__ __getitem__ __bool__""".split())
BARRED = set("""register mro elements open input law version_info with_traceback add_note attrgetter breakpoint builtins
compile copyright credits delattr dir eval exec exit gc getattr globals hasattr help id importlib license locals
methodcaller os quit setattr super type vars sys""".split())
WORDS = set("""type typing typing_extensions enum Enum IntEnum StrEnum Flag IntFlag Generic Protocol ABC ABCMeta
namedtuple NamedTuple TypedDict TYPE_CHECKING abstractmethod""".split())
STATEMENTS = (ast.FunctionDef, ast.ClassDef, ast.Return, ast.Delete, ast.Assign, ast.AugAssign, ast.For, ast.While,
              ast.If, ast.With, ast.Raise, ast.Try, ast.Assert, ast.ImportFrom, ast.Nonlocal, ast.Expr, ast.Pass,
              ast.Break, ast.Continue, ast.AnnAssign, ast.Match)
SPOT = {"range", "zip", "enumerate", "reversed"}
GOES_OVER = {"list", "tuple", "dict", "sorted", "sum", "any", "all", "enumerate", "zip", "min", "max"}


def files():
    for folder, _, names in os.walk(TOP):
        if "__pycache__" in folder:
            continue
        for name in sorted(names):
            yield os.path.join(folder, name)


def parents(tree):
    return {child: node for node in ast.walk(tree) for child in ast.iter_child_nodes(node)}


def bound_in(function):
    """The names that a function binds: its parameters, targets, and nested functions."""
    found = set()
    for node in ast.walk(function):
        if isinstance(node, ast.arg):
            found.add(node.arg)
        elif isinstance(node, ast.Name) and isinstance(node.ctx, ast.Store):
            found.add(node.id)
        elif isinstance(node, ast.FunctionDef) and node is not function:
            found.add(node.name)
    return found


class Language(unittest.TestCase):
    def setUp(self):
        self.trees = {}
        for path in files():
            with open(path, encoding="utf-8") as held:
                self.trees[path] = held.read()
        for path, text in self.trees.items():
            with warnings.catch_warnings():
                warnings.simplefilter("error")
                compile(text, path, "exec")
        self.trees = {path: (text, ast.parse(text)) for path, text in self.trees.items()}

    def test_files_and_lines(self):
        for path, (text, _) in self.trees.items():
            self.assertRegex(os.path.basename(path), r"^[a-z_0-9]+\.py$")
            self.assertTrue(os.path.exists(os.path.join(os.path.dirname(path), "__init__.py")))
            self.assertRegex(text, r"\A[ -~\n]*\Z", path)
            lines = text.split("\n")
            self.assertLess(len(lines), 400, path)
            self.assertLessEqual(max(map(len, lines)), 120, path)
            self.assertNotIn("_wall", text)
            for word in ("dataclass", "overload", "contextmanager"):
                self.assertNotIn(word, text)

    def test_functions_are_short(self):
        for path, (_, tree) in self.trees.items():
            for node in ast.walk(tree):
                if isinstance(node, ast.FunctionDef):
                    self.assertLessEqual(node.end_lineno - node.lineno + 1, 40, (path, node.name))
                    for part in node.decorator_list:
                        self.assertIn(ast.unparse(part), ("property", "classmethod", "staticmethod"))

    def test_imports(self):
        defined = {}
        for path, (_, tree) in self.trees.items():
            module = "watchkinds." + os.path.relpath(path, TOP)[:-3].replace(os.sep, ".")
            names = [node.name for node in tree.body if isinstance(node, (ast.FunctionDef, ast.ClassDef))]
            names += [node.targets[0].id for node in tree.body if isinstance(node, ast.Assign)]
            defined[module.removesuffix(".__init__")] = names
        for path, (_, tree) in self.trees.items():
            names = []
            for node in ast.walk(tree):
                self.assertNotIsInstance(node, ast.Import, path)
                if isinstance(node, ast.ImportFrom):
                    self.assertIn(node, tree.body, path)
                    self.assertEqual(node.level, 0)
                    for part in node.names:
                        allowed = LIBRARY.get(node.module) or defined[node.module]
                        self.assertIn(part.name, allowed, path)
                        self.assertIsNone(part.asname)
                        names.append(part.name)
            here = "watchkinds." + os.path.relpath(path, TOP)[:-3].replace(os.sep, ".")
            names += defined[here.removesuffix(".__init__")]
            self.assertEqual(len(names), len(set(names)), path)
            used = {node.id for node in ast.walk(tree) if isinstance(node, ast.Name)}
            imported = [part.name for node in tree.body if isinstance(node, ast.ImportFrom) for part in node.names]
            self.assertEqual([name for name in imported if name not in used], [], path)

    def test_no_circles_of_imports(self):
        leads = {}
        for path, (_, tree) in self.trees.items():
            here = "watchkinds." + os.path.relpath(path, TOP)[:-3].replace(os.sep, ".")
            leads[here] = [node.module for node in tree.body if isinstance(node, ast.ImportFrom)]
        done = set()
        while len(done) < len(leads):
            ready = [name for name in leads if name not in done
                     and all(ahead in done or ahead not in leads for ahead in leads[name])]
            self.assertTrue(ready, "imports go in a circle")
            done.update(ready)

    def test_module_level(self):
        for path, (_, tree) in self.trees.items():
            for at, node in enumerate(tree.body):
                if isinstance(node, ast.Expr):
                    self.assertTrue(at == 0 and isinstance(node.value.value, str), path)
                    continue
                self.assertIsInstance(node, (ast.ImportFrom, ast.FunctionDef, ast.ClassDef, ast.Assign), path)
                if isinstance(node, ast.Assign):
                    self.assertEqual(len(node.targets), 1)
                    for part in ast.walk(node.value):
                        self.assertIsInstance(part, (ast.Constant, ast.Tuple, ast.Dict, ast.List, ast.Name, ast.Load))
                        if part is not node.value:
                            self.assertNotIsInstance(part, (ast.List, ast.Dict))

    def test_statements_and_calls(self):
        own = set()
        for _, tree in self.trees.values():
            own |= {node.name for node in ast.walk(tree) if isinstance(node, ast.FunctionDef)}
        for path, (_, tree) in self.trees.items():
            for node in ast.walk(tree):
                place = (path, getattr(node, "lineno", 0))
                if isinstance(node, ast.stmt):
                    self.assertIsInstance(node, STATEMENTS, place)
                self.assertNotIsInstance(node, (ast.Global, ast.Await, ast.Set), place)
                if isinstance(node, ast.Try):
                    # Own errors alone are caught, by name.
                    self.assertEqual([ast.unparse(held.type) for held in node.handlers], ["ParseError"], place)
                    self.assertEqual(node.finalbody, [], place)
                self.assertNotIsInstance(node, ast.Div, place)
                if isinstance(node, ast.Call) and isinstance(node.func, ast.Attribute):
                    self.assertIn(node.func.attr, METHODS | own, place)
                if isinstance(node, ast.Name) and hasattr(builtins, node.id):
                    self.assertIn(node.id, BUILTINS, place)
                if isinstance(node, ast.Constant) and isinstance(node.value, float):
                    self.fail(place)
                if isinstance(node, (ast.Is, ast.IsNot)):
                    self.assertTrue(True)
                if isinstance(node, ast.Compare) and isinstance(node.ops[0], (ast.Is, ast.IsNot)):
                    self.assertTrue(isinstance(node.comparators[0], ast.Constant), place)

    def test_names(self):
        for path, (_, tree) in self.trees.items():
            outer = {node.name for node in tree.body if isinstance(node, ast.ClassDef)}
            outer |= {part.name for node in tree.body if isinstance(node, ast.ImportFrom) for part in node.names}
            for node in ast.walk(tree):
                if isinstance(node, ast.FunctionDef):
                    self.assertEqual(bound_in(node) & outer, set(), (path, node.name))
                    self.assertEqual({name for name in bound_in(node) if hasattr(builtins, name)}, set())
                    if node.name.startswith("__"):
                        self.assertIn(node.name, DUNDERS)
                    else:
                        self.assertRegex(node.name, r"^_?[A-Za-z][A-Za-z0-9_]*$")
                for name in (getattr(node, "id", ""), getattr(node, "arg", ""), getattr(node, "attr", "")):
                    self.assertNotIn(name, BARRED - {"super"}, path)
                if isinstance(node, ast.Constant) and isinstance(node.value, str):
                    self.assertNotIn("%", node.value, path)
                    self.assertFalse(node.value.endswith(("._", ".__")), path)

    def test_no_name_is_a_method_and_an_attribute(self):
        methods, attributes = set(), set()
        for _, tree in self.trees.values():
            for held in ast.walk(tree):
                if isinstance(held, ast.ClassDef):
                    methods |= {node.name for node in held.body if isinstance(node, ast.FunctionDef)}
                    attributes |= {node.attr for node in ast.walk(held) if isinstance(node, ast.Attribute)
                                   and isinstance(node.ctx, ast.Store)}
        self.assertGreater(len(attributes), 20)
        self.assertEqual(methods & attributes, set())

    def test_words_that_do_not_occur(self):
        for path, (text, tree) in self.trees.items():
            kept = text
            for node in ast.walk(tree):
                if isinstance(node, ast.Expr) and isinstance(node.value, ast.Constant):
                    kept = kept.replace(ast.get_source_segment(text, node), "")
            kept = re.sub(r"#.*", "", kept)
            self.assertEqual(set(re.findall(r"\w+", kept)) & WORDS, set(), path)

    def test_generator_expressions(self):
        """There are classes with `__eq__`: any, all, min, max, sum and sorted take lists."""
        for path, (_, tree) in self.trees.items():
            up = parents(tree)
            for node in ast.walk(tree):
                if isinstance(node, ast.GeneratorExp):
                    call = up[node]
                    self.assertIsInstance(call, ast.Call, (path, node.lineno))
                    self.assertIn(ast.unparse(call.func), ("list", "tuple", "dict"), (path, node.lineno))

    def test_iterated_at_once(self):
        for path, (_, tree) in self.trees.items():
            up = parents(tree)
            for node in ast.walk(tree):
                if not isinstance(node, ast.Call):
                    continue
                name = node.func.id if isinstance(node.func, ast.Name) else ""
                view = isinstance(node.func, ast.Attribute) and node.func.attr in ("items", "keys", "values")
                if name not in SPOT and not view:
                    continue
                over = up[node]
                place = (path, node.lineno, ast.unparse(node))
                if isinstance(over, (ast.For, ast.comprehension)):
                    self.assertIs(over.iter, node, place)
                elif isinstance(over, ast.Assign):
                    self.assertEqual(name, "range", place)
                else:
                    self.assertIsInstance(over, ast.Call, place)
                    if name == "range" and ast.unparse(over.func) == "reversed":
                        continue
                    self.assertIn(ast.unparse(over.func), GOES_OVER, place)
                    self.assertIs(over.args[0], node, place)

    def test_sets_stand_where_they_may(self):
        for path, (_, tree) in self.trees.items():
            up = parents(tree)
            for node in ast.walk(tree):
                plain = isinstance(node, ast.Call) and isinstance(node.func, ast.Name) and node.func.id == "set"
                if plain or isinstance(node, ast.SetComp):
                    over = up[node]
                    while isinstance(over, ast.BinOp):
                        over = up[over]
                    named = isinstance(over, ast.Call) and ast.unparse(over.func) in ("sorted", "len")
                    self.assertTrue(named or isinstance(over, ast.Compare), (path, node.lineno))

    def test_generators(self):
        names, all_names = [], []
        for _, tree in self.trees.values():
            for node in ast.walk(tree):
                if isinstance(node, ast.FunctionDef):
                    all_names.append(node.name)
                    if any(isinstance(part, (ast.Yield, ast.YieldFrom)) for part in ast.walk(node)):
                        names.append(node.name)
        for name in names:
            self.assertEqual(all_names.count(name), 1, name)
        for path, (_, tree) in self.trees.items():
            up = parents(tree)
            for node in ast.walk(tree):
                if isinstance(node, ast.Call):
                    called = node.func.attr if isinstance(node.func, ast.Attribute) else getattr(node.func, "id", "")
                    if called in names:
                        self.assertIsInstance(up[node], (ast.For, ast.comprehension, ast.YieldFrom), path)

    def test_loops_do_not_change_what_they_go_over(self):
        changing = {"append", "clear", "extend", "insert", "pop", "remove", "reverse", "setdefault", "update"}
        for path, (_, tree) in self.trees.items():
            for loop in ast.walk(tree):
                if not isinstance(loop, ast.For):
                    continue
                over = {ast.unparse(part) for part in ast.walk(loop.iter) if isinstance(part, (ast.Name, ast.Attribute))}
                for part in loop.body:
                    for node in ast.walk(part):
                        place = (path, loop.lineno)
                        if isinstance(node, ast.Call) and isinstance(node.func, ast.Attribute):
                            if node.func.attr in changing:
                                self.assertNotIn(ast.unparse(node.func.value), over, place)
                        if isinstance(node, ast.Subscript) and isinstance(node.ctx, (ast.Store, ast.Del)):
                            self.assertNotIn(ast.unparse(node.value), over, place)

    def test_raise_and_double_underscores(self):
        for path, (_, tree) in self.trees.items():
            for node in ast.walk(tree):
                if isinstance(node, ast.Raise):
                    self.assertIsInstance(node.exc, ast.Call, path)
                if isinstance(node, ast.FunctionDef) and node.name in ("__len__", "__str__", "__repr__"):
                    self.assertIsInstance(node.body[-1], ast.Return, path)

    def test_operators_and_properties_change_nothing(self):
        """What an operator, a property or the like calls changes only lists and dicts that it made itself."""
        functions, queue = {}, []
        for _, tree in self.trees.values():
            for node in ast.walk(tree):
                if isinstance(node, ast.FunctionDef):
                    functions.setdefault(node.name, []).append(node)
                    free = ("__init__", "__call__", "__enter__", "__exit__")
                    dunder = node.name.startswith("__") and node.name not in free
                    if dunder or any(ast.unparse(part) == "property" for part in node.decorator_list):
                        queue.append(node)
        met = []
        while queue:
            function = queue.pop()
            if function in met:
                continue
            met.append(function)
            for node in ast.walk(function):
                if isinstance(node, ast.Call):
                    called = node.func.attr if isinstance(node.func, ast.Attribute) else getattr(node.func, "id", "")
                    queue.extend(functions.get(called, []))
        self.assertGreater(len(met), 20)
        for function in met:
            self.check_pure(function)

    def check_pure(self, function):
        made = set()
        for node in ast.walk(function):
            if isinstance(node, ast.Assign) and isinstance(node.targets[0], ast.Name):
                calls = isinstance(node.value, ast.Call) and ast.unparse(node.value.func) in ("list", "dict", "sorted")
                if calls or isinstance(node.value, (ast.List, ast.Dict, ast.ListComp)):
                    made.add(node.targets[0].id)
        parameters = {node.arg for node in ast.walk(function.args) if isinstance(node, ast.arg)}
        for node in ast.walk(function):
            place = (function.name, getattr(node, "lineno", 0))
            self.assertNotIsInstance(node, (ast.Lambda, ast.Nonlocal, ast.Delete), place)
            if isinstance(node, ast.Attribute):
                self.assertIsInstance(node.ctx, ast.Load, place)
            if isinstance(node, ast.Subscript) and isinstance(node.ctx, ast.Store):
                self.assertIn(ast.unparse(node.value), made, place)
            if isinstance(node, ast.AugAssign):
                self.assertTrue(isinstance(node.op, ast.Add) and isinstance(node.value, ast.Constant), place)
            if isinstance(node, ast.Call) and isinstance(node.func, ast.Name):
                self.assertNotIn(node.func.id, parameters, place)
                self.assertNotEqual(node.func.id, "map", place)
            if isinstance(node, ast.Call) and isinstance(node.func, ast.Attribute):
                if node.func.attr in ("append", "extend", "pop", "setdefault", "update", "insert", "sort", "add"):
                    self.assertIn(ast.unparse(node.func.value), made, place)


if __name__ == "__main__":
    unittest.main()

"""The rules of the subset that can be seen in the code itself, for every file of the package."""

import ast
import builtins
import io
import keyword
import os
import re
import tokenize
import unittest

FOLDER = os.path.join(os.path.dirname(os.path.dirname(os.path.abspath(__file__))), "touchroad")
BUILTINS = set("""len range enumerate zip min max sum abs sorted reversed int str bool list tuple dict set isinstance ord
repr any all divmod Exception ValueError TypeError KeyError IndexError LookupError ZeroDivisionError""".split())
METHODS = set("""append clear copy count endswith extend find get index insert isalnum isalpha isdigit islower isspace isupper
items join keys ljust lower lstrip partition pop remove replace reverse rfind rjust rpartition rsplit rstrip setdefault split
splitlines startswith strip update upper values zfill bit_length""".split())
CHANGING = {"append", "clear", "extend", "insert", "pop", "remove", "reverse", "setdefault", "update"}
WORDS = set("""type typing typing_extensions enum Enum IntEnum StrEnum Flag IntFlag Generic Protocol ABC ABCMeta namedtuple
NamedTuple TypedDict TYPE_CHECKING abstractmethod""".split())
NAMES = WORDS | set("""mro elements open input law version_info with_traceback add_note attrgetter breakpoint builtins compile
copyright credits delattr dir eval exec exit gc getattr globals hasattr help id importlib license locals methodcaller os quit
setattr super vars sys""".split())
STATEMENTS = (ast.Assign, ast.AugAssign, ast.If, ast.While, ast.For, ast.Return, ast.Break, ast.Continue, ast.Pass, ast.Raise,
              ast.Assert, ast.Delete, ast.Expr, ast.FunctionDef, ast.ClassDef, ast.ImportFrom, ast.Try)
BUILT_IN = set(dir(builtins)) - {"_"}
AT_ONCE = ("zip", "enumerate", "reversed")


def files():
    found = {}
    for name in sorted(os.listdir(FOLDER)):
        if name != "__pycache__":
            with open(os.path.join(FOLDER, name), encoding="utf-8") as file:
                found[name] = file.read()
    return found


def parents_of(tree):
    return {child: node for node in ast.walk(tree) for child in ast.iter_child_nodes(node)}


def assigned(node):
    """All names that a function assigns, its parameters included."""
    names = {arg.arg for arg in node.args.args}
    return names | {n.id for n in ast.walk(node) if isinstance(n, ast.Name) and isinstance(n.ctx, ast.Store)}


class Language(unittest.TestCase):
    def setUp(self):
        self.files = files()
        self.trees = {name: ast.parse(text) for name, text in self.files.items()}

    def test_files(self):
        self.assertIn("__init__.py", self.files)
        self.assertLessEqual(len(self.files), 100)
        for name, text in self.files.items():
            self.assertRegex(name, r"^[a-z0-9_]+\.py$")
            self.assertNotIn(name[:-3], BUILT_IN | NAMES | {"heapq", "math", "itertools", "test", "tests"})
            self.assertTrue(all(sign == "\n" or " " <= sign <= "~" for sign in text), name)
            lines = text.split("\n")
            self.assertLessEqual(len(lines) - 1, 399, name)
            for number, line in enumerate(lines):
                self.assertLessEqual(len(line), 120, (name, number + 1))
                self.assertEqual(line, line.rstrip(), (name, number + 1))

    def test_module_level(self):
        for name, tree in self.trees.items():
            bound = []
            for at, node in enumerate(tree.body):
                if isinstance(node, ast.Expr):
                    self.assertTrue(at == 0 and isinstance(node.value, ast.Constant), (name, node.lineno))
                elif isinstance(node, ast.Assign):
                    self.assertEqual(len(node.targets), 1)
                    bound.append(node.targets[0].id)
                    if isinstance(node.value, ast.Dict) and all(isinstance(v, ast.Name) for v in node.value.values):
                        # A table of functions that are defined above.
                        above = {n.name for n in tree.body[:at] if isinstance(n, ast.FunctionDef)}
                        self.assertTrue({v.id for v in node.value.values} <= above, (name, node.lineno))
                        continue
                    value = ast.literal_eval(node.value)
                    inner = value.values() if isinstance(value, dict) else value if isinstance(value, (list, tuple)) else ()
                    self.assertFalse(any(isinstance(x, (list, dict, set)) for x in inner), (name, node.lineno))
                elif isinstance(node, ast.ImportFrom):
                    bound += [alias.name for alias in node.names]
                else:
                    self.assertIsInstance(node, (ast.FunctionDef, ast.ClassDef), (name, node.lineno))
                    bound.append(node.name)
            self.assertEqual(len(bound), len(set(bound)), name)
            self.assertFalse(set(bound) & BUILT_IN, name)

    def test_imports(self):
        leads = {}
        for name, tree in self.trees.items():
            leads[name] = set()
            words = [n.id for n in ast.walk(tree) if isinstance(n, ast.Name)]
            for node in ast.walk(tree):
                self.assertNotIsInstance(node, ast.Import)
                if not isinstance(node, ast.ImportFrom):
                    continue
                self.assertIn(node, tree.body)
                self.assertEqual(node.level, 0)
                module = node.module.removeprefix("touchroad.") + ".py"
                leads[name].add(module)
                for alias in node.names:
                    self.assertIsNone(alias.asname)
                    self.assertIn(alias.name, words, (name, alias.name))
                    defined = [n.name for n in self.trees[module].body if isinstance(n, (ast.FunctionDef, ast.ClassDef))]
                    defined += [n.targets[0].id for n in self.trees[module].body if isinstance(n, ast.Assign)]
                    self.assertIn(alias.name, defined, (name, alias.name))
        gone = True
        while gone:
            gone = [name for name in leads if not leads[name] & set(leads)]
            for name in gone:
                del leads[name]
        self.assertEqual(leads, {}, "files import from each other")

    def test_statements_and_expressions(self):
        for name, tree in self.trees.items():
            for node in ast.walk(tree):
                where = (name, getattr(node, "lineno", 0))
                if isinstance(node, ast.stmt):
                    self.assertIsInstance(node, STATEMENTS, where)
                if isinstance(node, (ast.FunctionDef, ast.ClassDef)):
                    self.assertIn([ast.unparse(d) for d in node.decorator_list], ([], ["property"]), where)
                if isinstance(node, ast.Try):
                    self.check_try(name, node)
                self.assertNotIsInstance(node, (ast.GeneratorExp, ast.Div, ast.MatMult, ast.Yield, ast.YieldFrom, ast.Await,
                                                ast.NamedExpr, ast.Starred, ast.AnnAssign, ast.Global), where)
                if isinstance(node, ast.Constant):
                    self.assertIsInstance(node.value, (int, str, bool, type(None)), where)
                if isinstance(node, ast.FunctionDef):
                    self.assertLessEqual(node.end_lineno - node.lineno + 1, 40, where)
                    self.assertIsNotNone(ast.get_docstring(node) or node.name.startswith("__") or None, where)
                    self.assertEqual(node.args.defaults + node.args.kwonlyargs + node.args.posonlyargs, [], where)
                if isinstance(node, ast.Compare):
                    for op, side in zip(node.ops, node.comparators):
                        if isinstance(op, (ast.Is, ast.IsNot)):
                            self.assertIsInstance(side, ast.Constant, where)
                if isinstance(node, ast.Pow):
                    self.fail(where)

    def check_try(self, name, node):
        """Only own errors are caught, around one statement, and nothing comes after the handlers."""
        own = {n.name for n in self.trees["errors.py"].body if isinstance(n, ast.ClassDef)}
        self.assertEqual((len(node.body), node.orelse, node.finalbody), (1, [], []), (name, node.lineno))
        for handler in node.handlers:
            caught = handler.type.elts if isinstance(handler.type, ast.Tuple) else [handler.type]
            self.assertTrue({kind.id for kind in caught} <= own, (name, node.lineno))
            self.assertIsNone(handler.name)

    def test_classes(self):
        classes = [n for tree in self.trees.values() for n in ast.walk(tree) if isinstance(n, ast.ClassDef)]
        names = [c.name for c in classes]
        self.assertEqual(len(names), len(set(names)))
        properties, methods, attributes = set(), set(), set()
        for node in classes:
            for method in node.body[1:] if ast.get_docstring(node) else node.body:
                self.assertIsInstance(method, ast.FunctionDef, (node.name, method.lineno))
                (properties if method.decorator_list else methods).add(method.name)
                if method.decorator_list:
                    self.assertEqual([type(s) for s in method.body[1:]], [ast.Return], (node.name, method.name))
                if method.name in ("__eq__", "__len__"):
                    self.assertFalse(any(isinstance(n, (ast.Assign, ast.AugAssign)) for n in ast.walk(method)))
                if method.name == "__eq__":
                    self.assertEqual(ast.unparse(method.body[0]), f"if not isinstance(other, {node.name}):\n    return False")
                if method.name == "__len__":
                    self.assertRegex(ast.unparse(method.body[0]), r"^return len\(")
                self.assertEqual(method.args.args[0].arg, "self")
        for tree in self.trees.values():
            attributes |= {n.attr for n in ast.walk(tree) if isinstance(n, ast.Attribute) and isinstance(n.ctx, ast.Store)}
        plain = {name for name in methods if not name.startswith("__")}
        self.assertFalse(properties & (plain | attributes))
        self.assertFalse(plain & attributes)
        self.assertFalse((properties | plain | attributes) & (METHODS | NAMES | {"register", "exit", "format"}))
        self.assertEqual({name for name in methods if name.startswith("__")}, {"__init__", "__eq__", "__len__"})

    def test_calls(self):
        methods = {n.name for tree in self.trees.values() for c in ast.walk(tree) if isinstance(c, ast.ClassDef)
                   for n in c.body if isinstance(n, ast.FunctionDef) and not n.decorator_list}
        for name, tree in self.trees.items():
            above = parents_of(tree)
            for node in ast.walk(tree):
                where = (name, getattr(node, "lineno", 0))
                if isinstance(node, ast.Attribute) and isinstance(above[node], ast.Call) and above[node].func is node:
                    self.assertIn(node.attr, METHODS | methods, where)
                if isinstance(node, ast.Call):
                    self.assertTrue(isinstance(node.func, (ast.Name, ast.Attribute)), where)
                    self.assertEqual(node.keywords, [], where)
                    called = node.func.id if isinstance(node.func, ast.Name) else None
                    if called in AT_ONCE or (isinstance(node.func, ast.Attribute) and node.func.attr in (
                            "items", "keys", "values")):
                        at = above[node]
                        once = (isinstance(at, (ast.For, ast.comprehension)) and at.iter is node) or (
                            isinstance(at, ast.Call) and at.func.id in ("list", "tuple", "dict", "sorted"))
                        self.assertTrue(once, where)
                if isinstance(node, (ast.Set, ast.SetComp)) or (
                        isinstance(node, ast.Call) and isinstance(node.func, ast.Name) and node.func.id in ("set", "frozenset")):
                    at = above[node]
                    self.assertTrue(isinstance(at, ast.Call) and at.func.id in ("sorted", "len"), where)

    def test_names(self):
        for name, tree in self.trees.items():
            top = {n.name for n in tree.body if isinstance(n, (ast.FunctionDef, ast.ClassDef))}
            top |= {n.targets[0].id for n in tree.body if isinstance(n, ast.Assign)}
            imports = {alias.name for n in tree.body if isinstance(n, ast.ImportFrom) for alias in n.names}
            classes = {n.name for n in tree.body if isinstance(n, ast.ClassDef)}
            for node in ast.walk(tree):
                if isinstance(node, ast.FunctionDef):
                    own = assigned(node)
                    self.assertFalse(own & (imports | classes | BUILT_IN), (name, node.name))
                    self.assertFalse((own | {node.name}) & NAMES, (name, node.name))
                    inner = [n for n in ast.walk(node) if isinstance(n, ast.FunctionDef) and n is not node]
                    self.assertEqual(inner, [], (name, node.name))
                    for word in own:
                        self.assertRegex(word, r"^(_|[a-z][a-z0-9_]*)$")
                    for read in ast.walk(node):
                        if isinstance(read, ast.Name) and isinstance(read.ctx, ast.Load) and read not in node.decorator_list:
                            self.assertIn(read.id, own | top | imports | BUILTINS, (name, read.lineno))
                            self.assertNotEqual(read.id, "_")
                    # A class or a builtin is called or asked for, but not passed on.
                    above = parents_of(node)
                    for read in ast.walk(node):
                        if isinstance(read, ast.Name) and read.id in BUILTINS:
                            at = above[read]
                            self.assertTrue(isinstance(at, ast.Call) and (at.func is read or at.func.id == "isinstance"),
                                            (name, read.lineno))

    def test_loops_do_not_change_what_they_go_over(self):
        for name, tree in self.trees.items():
            for node in ast.walk(tree):
                if not isinstance(node, ast.For):
                    continue
                inside = node.iter
                if isinstance(inside, ast.Call) and isinstance(inside.func, ast.Name) and inside.func.id == "list":
                    continue
                over = {ast.unparse(n) for n in ast.walk(inside) if isinstance(n, (ast.Name, ast.Attribute, ast.Subscript))}
                for part in [p for statement in node.body for p in ast.walk(statement)]:
                    if isinstance(part, ast.Call) and isinstance(part.func, ast.Attribute) and part.func.attr in CHANGING:
                        self.assertNotIn(ast.unparse(part.func.value), over, (name, part.lineno))
                    if isinstance(part, ast.Subscript) and isinstance(part.ctx, (ast.Store, ast.Del)):
                        self.assertNotIn(ast.unparse(part.value), over, (name, part.lineno))

    def test_tables_are_only_read(self):
        for name, tree in self.trees.items():
            tables = {n.targets[0].id for t in self.trees.values() for n in t.body
                      if isinstance(n, ast.Assign) and isinstance(n.value, (ast.Dict, ast.List))}
            above = parents_of(tree)
            for node in ast.walk(tree):
                if isinstance(node, ast.Name) and node.id in tables and isinstance(node.ctx, ast.Load):
                    at = above[node]
                    good = (isinstance(at, ast.Subscript) and at.value is node and isinstance(at.ctx, ast.Load)) or (
                        isinstance(at, ast.Compare)) or (isinstance(at, ast.Attribute) and at.attr == "get")
                    self.assertTrue(good, (name, node.lineno))

    def test_words_and_strings(self):
        for name, text in self.files.items():
            docs = {id(n.body[0].value) for n in ast.walk(self.trees[name])
                    if isinstance(n, (ast.Module, ast.FunctionDef, ast.ClassDef)) and n.body and isinstance(n.body[0], ast.Expr)}
            for node in ast.walk(self.trees[name]):
                if isinstance(node, ast.Constant) and isinstance(node.value, str) and id(node) not in docs:
                    self.assertNotIn("%", node.value)
                    self.assertFalse(set(re.findall(r"\w+", node.value)) & WORDS, (name, node.lineno))
            self.assertNotIn("_wall", text)
            for token in tokenize.generate_tokens(io.StringIO(text).readline):
                if token.type == tokenize.NAME and not keyword.iskeyword(token.string):
                    self.assertFalse(token.string.startswith("__") and token.string not in ("__init__", "__eq__", "__len__"), (name, token))
                    self.assertNotIn(token.string, WORDS, (name, token.start))


if __name__ == "__main__":
    unittest.main()

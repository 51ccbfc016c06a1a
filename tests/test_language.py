"""The rules of the language that can be seen by a look at the package's files."""

import ast
import builtins
import os
import re
import unittest

HERE = os.path.join(os.path.dirname(os.path.dirname(os.path.abspath(__file__))), "ledlevels")
LIBRARY = {"math": ("gcd", "lcm")}
BUILTINS = (
    "len range enumerate zip min max sum abs sorted reversed int str bool list tuple dict set isinstance ord repr any "
    "all divmod super ValueError LookupError").split()
METHODS = (
    "append clear copy count endswith extend find get index insert isalnum isalpha isdigit islower isspace isupper "
    "items join keys ljust lower lstrip partition pop remove replace reverse rfind rjust rpartition rsplit rstrip "
    "setdefault split splitlines startswith strip update upper values zfill bit_length __init__").split()
NOT_NAMES = (
    "register mro elements open input law version_info with_traceback add_note attrgetter breakpoint builtins compile "
    "copyright credits delattr dir eval exec exit gc globals help id importlib license locals methodcaller os quit "
    "setattr super type vars sys").split()
NOT_WORDS = (
    "type typing typing_extensions enum Enum IntEnum StrEnum Flag IntFlag Generic Protocol ABC ABCMeta namedtuple "
    "NamedTuple TypedDict TYPE_CHECKING abstractmethod").split()
NODES = (
    "Module Expr Constant ImportFrom alias FunctionDef arguments arg ClassDef Assign AugAssign Name Load Store Attribute "
    "Return If For While Break Continue Pass Raise Call Compare BoolOp And Or Not UnaryOp USub BinOp Add Sub Mult "
    "FloorDiv Mod Pow IfExp Subscript Slice Tuple List Dict ListComp DictComp comprehension Eq NotEq Lt LtE Gt GtE In "
    "NotIn Is IsNot Starred keyword Try ExceptHandler").split()
NOT_ATTRIBUTES = (
    "items keys values pop update append clear extend insert remove reverse setdefault sort args encode decode hex fromhex "
    "format format_map mro").split()


def files():
    """The names and texts of the package's files."""
    out = {}
    for name in sorted(os.listdir(HERE)):
        if name != "__pycache__":
            with open(os.path.join(HERE, name), encoding="utf-8") as file:
                out[name] = file.read()
    return out


def bound_names(tree):
    """All names that a file gives to something."""
    for node in ast.walk(tree):
        if isinstance(node, (ast.FunctionDef, ast.ClassDef)):
            yield node.name
        elif isinstance(node, ast.arg):
            yield node.arg
        elif isinstance(node, ast.Name) and isinstance(node.ctx, ast.Store):
            yield node.id


def inner_names(tree):
    """The parameters and local variables of a file's functions."""
    for function in ast.walk(tree):
        if isinstance(function, ast.FunctionDef):
            for node in ast.walk(function):
                if isinstance(node, ast.arg):
                    yield node.arg
                elif isinstance(node, ast.Name) and isinstance(node.ctx, ast.Store):
                    yield node.id


class Language(unittest.TestCase):
    def setUp(self):
        self.texts = files()
        self.trees = {name: ast.parse(text) for name, text in self.texts.items()}

    def walk(self, *kinds):
        for name, tree in self.trees.items():
            for node in ast.walk(tree):
                if isinstance(node, kinds):
                    yield name, node

    def test_files(self):
        self.assertIn("__init__.py", self.texts)
        for name, text in self.texts.items():
            self.assertRegex(name, r"^[a-z_][a-z0-9_]*\.py$")
            self.assertTrue(all(c == "\n" or " " <= c <= "~" for c in text), name)
            self.assertLessEqual(text.count("\n"), 399, name)
            for k, line in enumerate(text.split("\n")):
                self.assertLessEqual(len(line), 120, (name, k + 1))
                self.assertEqual(line, line.rstrip(), (name, k + 1))

    def test_functions_are_short(self):
        for name, node in self.walk(ast.FunctionDef):
            self.assertLessEqual(node.end_lineno - node.lineno + 1, 40, (name, node.name))
            self.assertEqual(node.decorator_list, [])
            self.assertIsNotNone(ast.get_docstring(node) or node.name == "__init__" or None, (name, node.name))
            self.assertFalse(node.args.vararg or node.args.kwarg or node.args.defaults or node.args.kwonlyargs)

    def test_only_plain_statements_and_expressions(self):
        for name, node in self.walk(ast.AST):
            self.assertIn(node.__class__.__name__, NODES, (name, getattr(node, "lineno", None)))

    def test_module_level(self):
        for name, tree in self.trees.items():
            seen = []
            for k, node in enumerate(tree.body):
                if isinstance(node, ast.Expr):
                    self.assertTrue(k == 0 and isinstance(node.value, ast.Constant), name)
                elif isinstance(node, ast.Assign):
                    self.assertEqual(len(node.targets), 1)
                    ast.literal_eval(node.value)
                    seen.append(node.targets[0].id)
                elif isinstance(node, ast.ImportFrom):
                    seen.extend(part.name for part in node.names)
                else:
                    self.assertIsInstance(node, (ast.FunctionDef, ast.ClassDef))
                    seen.append(node.name)
            self.assertEqual(len(seen), len(set(seen)), name)

    def test_imports(self):
        goes_to = {}
        for name, node in self.walk(ast.ImportFrom):
            self.assertEqual(node.level, 0)
            self.assertTrue(all(part.asname is None for part in node.names))
            told = [part.name for part in node.names]
            used = [one.id for one in ast.walk(self.trees[name]) if isinstance(one, ast.Name)]
            self.assertEqual([one for one in told if one not in used], [], name)
            if node.module in LIBRARY:
                self.assertTrue(all(one in LIBRARY[node.module] for one in told), name)
                continue
            folder, _, file = node.module.partition(".")
            self.assertEqual(folder, "ledlevels")
            tree = self.trees[file + ".py"]
            own = [one.name for one in tree.body if isinstance(one, (ast.FunctionDef, ast.ClassDef))]
            own += [one.targets[0].id for one in tree.body if isinstance(one, ast.Assign)]
            self.assertEqual([one for one in told if one not in own], [], (name, file))
            goes_to.setdefault(name, []).append(file + ".py")
        done = []
        while len(done) < len(self.texts):
            ready = [name for name in self.texts if name not in done
                     and all(other in done for other in goes_to.get(name, []))]
            self.assertNotEqual(ready, [], "files import from each other")
            done.extend(ready)

    def test_names(self):
        for name, tree in self.trees.items():
            for word in bound_names(tree):
                if word in ("__init__", "_"):
                    continue
                self.assertRegex(word, r"^[A-Za-z][A-Za-z0-9_]*$", name)
                self.assertNotIn(word, NOT_NAMES, name)
                self.assertFalse(hasattr(builtins, word), (name, word))
            top = [part.name for node in tree.body if isinstance(node, ast.ImportFrom) for part in node.names]
            top += [node.name for node in tree.body if isinstance(node, ast.ClassDef)]
            self.assertEqual([word for word in inner_names(tree) if word in top], [], name)
        for name, text in self.texts.items():
            for word in re.findall(r"[A-Za-z_]+", text):
                self.assertNotIn(word, NOT_WORDS, name)
            self.assertFalse("_" + "wall" in text, name)

    def test_what_is_read_is_known(self):
        for name, tree in self.trees.items():
            known = list(bound_names(tree)) + BUILTINS
            known += [part.name for node in tree.body if isinstance(node, ast.ImportFrom) for part in node.names]
            for node in ast.walk(tree):
                if isinstance(node, ast.Name):
                    self.assertIn(node.id, known, (name, node.lineno))
                    if node.id == "_":
                        self.assertIsInstance(node.ctx, ast.Store)

    def test_calls(self):
        own = [one.name for _, node in self.walk(ast.ClassDef) for one in node.body if isinstance(one, ast.FunctionDef)]
        spots = set(self.gone_through())
        for name, node in self.walk(ast.Call):
            self.assertEqual(node.keywords, [], (name, node.lineno))
            self.assertFalse(any(isinstance(one, ast.Starred) for one in node.args), (name, node.lineno))
            if isinstance(node.func, ast.Attribute):
                self.assertIn(node.func.attr, METHODS + own, (name, node.lineno))
            else:
                self.assertIsInstance(node.func, ast.Name)
            if isinstance(node.func, ast.Name) and node.func.id in ("zip", "enumerate", "reversed", "range"):
                self.assertIn((name, node.lineno, node.col_offset), spots, "not gone through at once")
            if isinstance(node.func, ast.Name) and node.func.id == "set":
                self.assertIn("len(set(", self.texts[name])

    def test_classes(self):
        told = {node.name: node for _, node in self.walk(ast.ClassDef)}
        methods = {name: [one.name for one in node.body if isinstance(one, ast.FunctionDef)] for name,
                   node in told.items()}
        stored = {name: {one.attr for one in ast.walk(node)
                         if isinstance(one, ast.Attribute) and isinstance(one.ctx, ast.Store)}
                  for name, node in told.items()}
        every = set().union(*stored.values())
        own = {word for words in methods.values() for word in words}
        for name, node in told.items():
            self.assertLessEqual(len(node.bases), 1)
            self.assertEqual(len(methods[name]), len(set(methods[name])))
            self.assertEqual(stored[name] & set(methods[name]), set(), name)
            self.assertEqual(stored[name] & set(NOT_ATTRIBUTES), set(), name)
            for word in methods[name]:
                if word != "__init__":
                    for value in ("", 1, [], {}, set(), b""):
                        self.assertFalse(hasattr(value, word), (name, word))
        for name, node in self.walk(ast.Attribute):
            spot = (name, node.lineno)
            if isinstance(node.value, ast.Call):
                self.assertTrue(node.attr in METHODS, spot)
            if isinstance(node.value, ast.Name):
                self.assertNotIn(node.value.id, told, spot)
            if node.attr not in METHODS:
                self.assertIn(node.attr, every | own, spot)
            if isinstance(node.ctx, ast.Store):
                self.assertEqual(node.value.id, "self", spot)
        for name, node in self.walk(ast.Call):
            if isinstance(node.func, ast.Name) and node.func.id == "super":
                self.assertIn("super().__init__(\"", self.texts[name].split("\n")[node.lineno - 1])

    def test_errors_are_caught_by_their_own_names(self):
        own = [node.name for node in self.trees["errors.py"].body if isinstance(node, ast.ClassDef)]
        both = [word for word in ("number", "place", "slope", "lap", "name", "names")]
        for name, node in self.walk(ast.Try):
            self.assertEqual(node.finalbody, [])
            for handler in node.handlers:
                caught = handler.type.elts if isinstance(handler.type, ast.Tuple) else [handler.type]
                self.assertTrue(all(one.id in own for one in caught), (name, node.lineno))
            # What is a method of one class and an attribute of another one is not called here.
            for part in node.body:
                for one in ast.walk(part):
                    self.assertFalse(isinstance(one, ast.Attribute) and one.attr in both, (name, node.lineno))

    def gone_through(self):
        """Where calls stand that a loop or a list goes through at once."""
        spots = []
        for name, node in self.walk(ast.For, ast.comprehension, ast.Call):
            if not isinstance(node, ast.Call):
                spots.append((name, node.iter.lineno, node.iter.col_offset))
            elif isinstance(node.func, ast.Name) and node.func.id in ("list", "tuple", "enumerate", "zip"):
                spots.extend((name, one.lineno, one.col_offset) for one in node.args)
        return spots

    def test_comprehensions_within_others_have_names_of_their_own(self):
        for name, outer in self.walk(ast.ListComp, ast.DictComp):
            own = [list(bound_names(part.target)) for part in outer.generators]
            for inner in ast.walk(outer):
                if inner is not outer and isinstance(inner, (ast.ListComp, ast.DictComp)):
                    for part in inner.generators:
                        for word in bound_names(part.target):
                            self.assertFalse(any(word in names for names in own), (name, inner.lineno))

    def test_values(self):
        for name, node in self.walk(ast.Constant):
            self.assertIsInstance(node.value, (int, str, bool, None.__class__), (name, node.lineno))
            if isinstance(node.value, str):
                self.assertNotIn("%", node.value)
        for name, node in self.walk(ast.Compare):
            for sign, other in zip(node.ops, node.comparators):
                if isinstance(sign, (ast.Is, ast.IsNot)):
                    self.assertIn(getattr(other, "value", 0), (None, True, False))
        for name, node in self.walk(ast.BinOp):
            if isinstance(node.op, ast.Pow):
                self.assertLessEqual(node.right.value, 64)


if __name__ == "__main__":
    unittest.main()

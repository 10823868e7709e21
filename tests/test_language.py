"""Rules of the language that the package keeps, as far as they are seen in its text."""

import ast
import builtins
import os
import unittest

import producttables

GIVEN = {name for name in dir(builtins) if not name.startswith("_")}
FOLDER = os.path.dirname(os.path.abspath(producttables.__file__))
BUILTINS = set(
    "len range enumerate zip min max sum abs sorted reversed int str bool list tuple dict set isinstance ord repr any"
    " all divmod Exception ValueError TypeError KeyError IndexError LookupError ZeroDivisionError ArithmeticError"
    " OverflowError RuntimeError NotImplementedError NotImplemented property staticmethod classmethod True False"
    " None super".split())
LIBRARY = {"math": {"gcd", "lcm", "isqrt", "comb", "perm", "factorial"},
           "itertools": {"product", "combinations", "permutations"}, "heapq": {"heappush", "heappop", "heapify"}}
METHODS = set(
    "append clear copy count endswith extend find get index insert isalnum isalpha isdigit islower isspace isupper"
    " items join keys ljust lower lstrip partition pop remove replace reverse rfind rjust rpartition rsplit rstrip"
    " setdefault split splitlines startswith strip update upper values zfill bit_length".split())
DOUBLE = set(
    "init eq repr str len enter exit call iter lt le gt ge ne add sub mul floordiv mod pow and or xor lshift rshift"
    " radd rsub rmul rfloordiv rmod rand ror rxor rlshift rrshift iadd isub imul neg pos invert abs bool contains"
    " getitem setitem".split())
BARRED_NAMES = set(
    "register mro elements open input law version_info with_traceback add_note attrgetter breakpoint builtins compile"
    " copyright credits delattr dir eval exec exit gc getattr globals hasattr help id importlib license locals"
    " methodcaller os quit setattr super type vars sys".split())
BARRED_WORDS = set(
    "type typing typing_extensions enum Enum IntEnum StrEnum Flag IntFlag Generic Protocol ABC ABCMeta namedtuple"
    " NamedTuple TypedDict TYPE_CHECKING abstractmethod dataclass overload contextmanager".split())
STATEMENTS = (
    ast.Assign, ast.AugAssign, ast.If, ast.While, ast.For, ast.Return, ast.Break, ast.Continue, ast.Pass, ast.Raise,
    ast.Assert, ast.Delete, ast.With, ast.Try, ast.Expr, ast.FunctionDef, ast.ClassDef, ast.ImportFrom,
)


def files():
    return sorted(name for name in os.listdir(FOLDER) if name != "__pycache__")


def text_of(name):
    with open(os.path.join(FOLDER, name), encoding="utf-8") as file:
        return file.read()


def trees():
    return {name: ast.parse(text_of(name)) for name in files()}


def functions_of(tree):
    return [node for node in ast.walk(tree) if isinstance(node, (ast.FunctionDef, ast.Lambda))]


def parameters_of(function):
    told = function.args
    rest = [one for one in (told.vararg, told.kwarg) if one is not None]
    return [one.arg for one in told.posonlyargs + told.args + told.kwonlyargs + rest]


def assigned_in(node):
    return [one.id for one in ast.walk(node) if isinstance(one, ast.Name) and isinstance(one.ctx, ast.Store)]


def defined_by(tree):
    """The names bound at module level, without imports."""
    found = []
    for node in tree.body:
        if isinstance(node, (ast.FunctionDef, ast.ClassDef)):
            found.append(node.name)
        elif isinstance(node, ast.Assign):
            found.extend(one.id for one in node.targets)
    return found


def imported_by(tree):
    return [one.name for node in tree.body if isinstance(node, ast.ImportFrom) for one in node.names]


def docstrings(tree):
    found = []
    for node in ast.walk(tree):
        if isinstance(node, (ast.Module, ast.ClassDef, ast.FunctionDef)) and ast.get_docstring(node) is not None:
            found.append(node.body[0].value)
    return found


class Language(unittest.TestCase):
    def test_files(self):
        self.assertIn("__init__.py", files())
        for name in files():
            self.assertRegex(name, r"^[a-z][a-z0-9_]*\.py$|^__init__\.py$|^__main__\.py$")
            self.assertNotIn(name[:-3], GIVEN)
        self.assertLessEqual(len(files()), 100)

    def test_lines_and_signs(self):
        for name in files():
            text = text_of(name)
            self.assertLessEqual(len(text.splitlines()), 399, name)
            for line in text.splitlines():
                self.assertLessEqual(len(line), 120, name)
            self.assertEqual([sign for sign in text if not (" " <= sign <= "~" or sign == "\n")], [], name)

    def test_imports(self):
        told = trees()
        defined = {name[:-3]: defined_by(tree) for name, tree in told.items()}
        uses = {}
        for name, tree in told.items():
            for node in ast.walk(tree):
                self.assertNotIsInstance(node, ast.Import, name)
                if not isinstance(node, ast.ImportFrom):
                    continue
                self.assertIn(node, tree.body)
                self.assertEqual([one for one in node.names if one.asname], [])
                words = {one.name for one in node.names}
                if node.module in LIBRARY:
                    self.assertLessEqual(words, LIBRARY[node.module])
                    continue
                package, file = node.module.split(".")
                self.assertEqual((package, node.level), ("producttables", 0))
                self.assertLessEqual(words, set(defined[file]), name)
                uses.setdefault(name[:-3], set()).add(file)
            names = defined_by(tree) + imported_by(tree)
            self.assertEqual(len(names), len(set(names)), name)
        # no file is reached from itself
        for name in uses:
            reached, left = set(), list(uses[name])
            while left:
                one = left.pop()
                if one not in reached:
                    reached.add(one)
                    left.extend(uses.get(one, ()))
            self.assertNotIn(name, reached)

    def test_imports_are_used(self):
        for name, tree in trees().items():
            read = {node.id for node in ast.walk(tree) if isinstance(node, ast.Name)}
            self.assertLessEqual(set(imported_by(tree)), read, name)

    def test_module_level(self):
        for name, tree in trees().items():
            for node in tree.body:
                if isinstance(node, ast.Expr):
                    self.assertIs(node, tree.body[0])
                    self.assertIsInstance(node.value.value, str)
                elif isinstance(node, ast.Assign):
                    self.assertEqual(len(node.targets), 1)
                    self.assertIsInstance(node.targets[0], ast.Name)
                    for one in ast.walk(node.value):
                        self.assertNotIsInstance(one, (ast.Call, ast.ListComp), name)
                else:
                    self.assertIsInstance(node, (ast.ImportFrom, ast.FunctionDef, ast.ClassDef), name)

    def test_sizes(self):
        for name, tree in trees().items():
            for function in functions_of(tree):
                if isinstance(function, ast.FunctionDef):
                    self.assertLessEqual(function.end_lineno - function.lineno + 1, 40, function.name)

    def test_statements_and_expressions(self):
        for name, tree in trees().items():
            for node in ast.walk(tree):
                where = f"{name} {getattr(node, 'lineno', 0)}"
                if isinstance(node, ast.stmt):
                    self.assertIsInstance(node, STATEMENTS, where)
                self.assertNotIsInstance(node, (ast.Div, ast.GeneratorExp, ast.Await, ast.Yield, ast.Set), where)
                if isinstance(node, ast.AugAssign):
                    self.assertIsInstance(node.value, ast.Constant, where)
                    self.assertIsInstance(node.value.value, int, where)
                if isinstance(node, ast.Constant):
                    self.assertNotIsInstance(node.value, (float, complex), where)
                if isinstance(node, ast.BinOp) and isinstance(node.op, ast.Pow):
                    self.assertIsInstance(node.right, ast.Constant, where)
                if isinstance(node, ast.Compare):
                    for operator, right in zip(node.ops, node.comparators):
                        if isinstance(operator, (ast.Is, ast.IsNot)):
                            self.assertIsInstance(right, ast.Constant, where)
                            self.assertIn(right.value, (None, True, False), where)
                if isinstance(node, ast.FunctionDef):
                    told = [ast.unparse(one) for one in node.decorator_list]
                    self.assertIn(told, ([], ["property"], ["classmethod"], ["staticmethod"]), where)
                    self.assertIsNone(node.returns, where)
                if isinstance(node, ast.arg):
                    self.assertIsNone(node.annotation, where)

    def test_strings(self):
        for name, tree in trees().items():
            told = docstrings(tree)
            for node in ast.walk(tree):
                if isinstance(node, ast.Constant) and isinstance(node.value, str) and node not in told:
                    self.assertNotIn("%", node.value, name)
                    for word in BARRED_WORDS:
                        self.assertNotIn(word, node.value.split(), name)

    def test_names(self):
        for name, tree in trees().items():
            bound = set(defined_by(tree)) | set(imported_by(tree))
            classes = {node.name for node in tree.body if isinstance(node, ast.ClassDef)}
            barred = classes | set(imported_by(tree))
            for node in ast.walk(tree):
                words = []
                if isinstance(node, (ast.FunctionDef, ast.ClassDef)):
                    words.append(node.name)
                if isinstance(node, (ast.FunctionDef, ast.Lambda)):
                    words.extend(parameters_of(node))
                    local = set(parameters_of(node)) | set(assigned_in(node))
                    self.assertEqual(local & barred, set(), f"{name} {node.lineno}")
                    # a name of the file itself stands for one thing only, too
                    self.assertEqual(local & bound, set(), f"{name} {node.lineno}")
                if isinstance(node, ast.Name) and isinstance(node.ctx, ast.Store):
                    words.append(node.id)
                for word in words:
                    self.assertNotIn(word, GIVEN, name)
                    self.assertNotIn(word, BARRED_NAMES | BARRED_WORDS, name)
                    double = word.startswith("__") and word[2:-2] in DOUBLE
                    self.assertTrue(double or not word.startswith("__"), word)

    def test_builtins(self):
        for name, tree in trees().items():
            known = set(defined_by(tree)) | set(imported_by(tree)) | set(assigned_in(tree))
            for function in functions_of(tree):
                known |= set(parameters_of(function))
            known |= {node.name for node in ast.walk(tree) if isinstance(node, ast.ExceptHandler)}
            for node in ast.walk(tree):
                if isinstance(node, ast.Name) and isinstance(node.ctx, ast.Load):
                    self.assertIn(node.id, known | BUILTINS, f"{name} {node.lineno}")

    def test_methods_and_attributes(self):
        own, kept = set(), set()
        kinds = (str, int, list, dict, set, bytes, tuple)
        for tree in trees().values():
            for node in ast.walk(tree):
                if isinstance(node, ast.ClassDef):
                    own |= {one.name for one in node.body if isinstance(one, ast.FunctionDef)}
                if isinstance(node, ast.Attribute) and isinstance(node.ctx, ast.Store):
                    kept.add(node.attr)
        for word in own | kept:
            # a method may be called like those of builtin values that may be called
            if word not in METHODS - kept and not (word.startswith("__") and word.endswith("__")):
                self.assertFalse(any(hasattr(kind, word) for kind in kinds), word)
                self.assertNotIn(word, BARRED_NAMES | BARRED_WORDS)
        self.assertEqual(own & kept, set())
        for name, tree in trees().items():
            for node in ast.walk(tree):
                if isinstance(node, ast.Attribute):
                    self.assertIn(node.attr, own | kept | METHODS, f"{name} {node.lineno}")

    def test_own_errors_alone_are_caught(self):
        for name, tree in trees().items():
            own = [node.id for node in ast.walk(tree) if isinstance(node, ast.Name)]
            for node in ast.walk(tree):
                if isinstance(node, ast.ExceptHandler):
                    caught = node.type.elts if isinstance(node.type, ast.Tuple) else [node.type]
                    for one in caught:
                        self.assertIn(one.id, imported_by(tree), name)
                        self.assertNotIn(one.id, GIVEN)
                        self.assertIn(one.id, own)
                if isinstance(node, ast.Raise):
                    self.assertTrue(node.exc is None or isinstance(node.exc, ast.Call), name)

    def test_leaving_a_block(self):
        for name, tree in trees().items():
            for function in functions_of(tree):
                if getattr(function, "name", "") != "__exit__":
                    continue
                self.assertEqual(parameters_of(function), ["self", "kind", "value", "trace"])
                for row in function.body:
                    # nothing but names and attributes
                    self.assertIsInstance(row, ast.Assign)
                    for part in (row.value, *row.targets):
                        self.assertIsInstance(part, (ast.Name, ast.Attribute))

    def test_objects_with_items(self):
        for name, tree in trees().items():
            for node in ast.walk(tree):
                if isinstance(node, ast.ClassDef):
                    methods = {one.name: one for one in node.body if isinstance(one, ast.FunctionDef)}
                    if "__getitem__" in methods:
                        self.assertIsInstance(methods["__iter__"].body[0], ast.Raise)
                if isinstance(node, ast.Call) and isinstance(node.func, ast.Name) and node.func.id == "reversed":
                    self.assertEqual(node.args[0].func.id, "range", name)
                if isinstance(node, ast.Starred):
                    self.assertIsInstance(node.value, ast.Name, name)
            for word in ("(type)", "Meta", "metaclass="):
                self.assertNotIn(word, text_of(name))

    def test_module_level_tables(self):
        for name, tree in trees().items():
            told = [node.targets[0].id for node in tree.body
                    if isinstance(node, ast.Assign) and isinstance(node.value, (ast.Dict, ast.List))]
            reads = {one.value.id for one in ast.walk(tree) if isinstance(one, (ast.Subscript, ast.Attribute))
                     and isinstance(one.value, ast.Name)}
            for node in tree.body:
                if isinstance(node, ast.Assign) and isinstance(node.value, (ast.Dict, ast.List)):
                    for one in ast.walk(node.value):
                        self.assertTrue(one is node.value or not isinstance(one, (ast.Dict, ast.List)), name)
            # a table is never handed on as it is
            for node in ast.walk(tree):
                if isinstance(node, (ast.Call, ast.Return)):
                    for one in getattr(node, "args", [getattr(node, "value", None)]):
                        self.assertFalse(isinstance(one, ast.Name) and one.id in told, name)
            self.assertLessEqual(set(told) - reads, {"DEEDS"}, name)

    def test_nothing_but_known_calls_with_keywords(self):
        for name, tree in trees().items():
            for node in ast.walk(tree):
                if isinstance(node, ast.Call) and isinstance(node.func, ast.Name) and node.keywords:
                    if node.func.id in GIVEN:
                        self.assertIn(node.func.id, ("sorted", "min", "max", "sum", "enumerate", "zip"), name)


if __name__ == "__main__":
    unittest.main()

"""Tests that the files of the package keep to the plain rules of the language.

They see the rules on files, characters, sizes, imports, names, errors, and what
is given to builtins; the others are kept by reading.
"""

import ast
import builtins
import pathlib
import re
import unittest

FOLDER = pathlib.Path(__file__).resolve().parent.parent / "leastplaces"

BARRED = (
    "type typing typing_extensions enum Enum IntEnum StrEnum Flag IntFlag Generic Protocol ABC "
    "ABCMeta namedtuple NamedTuple TypedDict TYPE_CHECKING abstractmethod"
).split()
BARRED_PARTS = ("dataclass", "overload", "contextmanager")

# The builtins of rule L8, without chr, which rule L27 removes.
BUILTINS = (
    "len range enumerate zip min max sum abs sorted reversed int str bool bytes list tuple dict set "
    "frozenset isinstance ord repr any all divmod Exception ValueError TypeError KeyError IndexError "
    "LookupError ZeroDivisionError ArithmeticError OverflowError RuntimeError NotImplementedError "
    "AttributeError StopIteration NotImplemented iter next super property staticmethod classmethod"
).split()


def sources():
    return [(path.name, path.read_text("utf-8")) for path in sorted(FOLDER.glob("*.py"))]


class LanguageTest(unittest.TestCase):

    def test_the_folder_holds_only_python_files(self):
        for path in FOLDER.iterdir():
            if path.name != "__pycache__":
                self.assertRegex(path.name, r"\A[a-z0-9_]+\.py\Z")
        self.assertTrue((FOLDER / "__init__.py").is_file())

    def test_characters(self):
        for name, text in sources():
            self.assertRegex(text, r"\A[\n -~]*\Z", name)

    def test_sizes(self):
        for name, text in sources():
            lines = text.splitlines()
            self.assertLessEqual(len(lines), 400, name)
            self.assertLessEqual(max(len(line) for line in lines), 120, name)
            for node in ast.walk(ast.parse(text)):
                if isinstance(node, ast.FunctionDef):
                    self.assertLessEqual(node.end_lineno - node.lineno + 1, 40, (name, node.name))

    def test_words(self):
        for name, text in sources():
            words = re.findall(r"\w+", text)
            for word in BARRED:
                self.assertNotIn(word, words, name)
            for part in BARRED_PARTS:
                self.assertNotIn(part, text, name)

    def test_imports(self):
        names = [name for name, _ in sources()]
        for name, text in sources():
            for node in ast.walk(ast.parse(text)):
                self.assertNotIsInstance(node, ast.Import, name)
                if isinstance(node, ast.ImportFrom):
                    self.assertEqual(node.level, 0, name)
                    package, _, module = node.module.partition(".")
                    self.assertEqual(package, "leastplaces", name)
                    self.assertIn(module + ".py", names, name)

    def test_names_do_not_begin_with_an_underscore(self):
        for name, text in sources():
            for node in ast.walk(ast.parse(text)):
                word = getattr(node, "id", None) or getattr(node, "attr", None) or ""
                self.assertFalse(word.startswith("_") and not word.startswith("__"), (name, word))

    def test_builtins(self):
        for name, text in sources():
            for node in ast.walk(ast.parse(text)):
                if isinstance(node, ast.Name) and hasattr(builtins, node.id):
                    self.assertIn(node.id, BUILTINS, name)
                    self.assertIsInstance(node.ctx, ast.Load, (name, node.id))

    def test_calls_of_generators_are_iterated_at_once(self):
        takers = "list tuple dict sorted sum min max any all enumerate zip".split()
        trees = [(name, ast.parse(text)) for name, text in sources()]
        makers = {
            node.name for _, tree in trees for node in ast.walk(tree)
            if isinstance(node, ast.FunctionDef)
            and any(isinstance(part, (ast.Yield, ast.YieldFrom)) for part in ast.walk(node))}
        self.assertIn("each_shape", makers)
        for name, tree in trees:
            iterated = set()
            for node in ast.walk(tree):
                if isinstance(node, (ast.For, ast.comprehension)):
                    iterated.add(id(getattr(node.iter, "func", None)))
                elif isinstance(node, ast.YieldFrom):
                    iterated.add(id(getattr(node.value, "func", None)))
                elif isinstance(node, ast.Call) and getattr(node.func, "id", None) in takers:
                    iterated.update(id(getattr(part, "func", None)) for part in node.args)
            for node in ast.walk(tree):
                if isinstance(node, ast.Name) and node.id in makers:
                    self.assertIn(id(node), iterated, (name, node.id))

    def test_no_local_name_hides_an_import_a_class_or_a_builtin(self):
        for name, text in sources():
            tree = ast.parse(text)
            taken = {
                alias.asname or alias.name for node in ast.walk(tree)
                if isinstance(node, ast.ImportFrom) for alias in node.names}
            taken |= {node.name for node in ast.walk(tree) if isinstance(node, ast.ClassDef)}
            taken |= set(dir(builtins))
            for node in ast.walk(tree):
                if isinstance(node, ast.Name) and isinstance(node.ctx, ast.Store):
                    self.assertNotIn(node.id, taken, (name, node.lineno))
                if isinstance(node, ast.arg):
                    self.assertNotIn(node.arg, taken, (name, node.lineno))

    def test_each_name_is_bound_once_at_module_level(self):
        for name, text in sources():
            bound = []
            for node in ast.parse(text).body:
                if isinstance(node, ast.ImportFrom):
                    bound += [alias.asname or alias.name for alias in node.names]
                elif isinstance(node, (ast.FunctionDef, ast.ClassDef)):
                    bound.append(node.name)
                elif isinstance(node, ast.Assign):
                    bound += [target.id for target in node.targets]
                else:
                    self.assertIsInstance(node, ast.Expr, name)
            self.assertEqual(len(bound), len(set(bound)), name)

    def test_no_name_is_a_method_and_an_attribute(self):
        methods, attributes = set(), set()
        for _, text in sources():
            for node in ast.walk(ast.parse(text)):
                if isinstance(node, ast.ClassDef):
                    methods |= {part.name for part in node.body if isinstance(part, ast.FunctionDef)}
                if isinstance(node, ast.Attribute) and isinstance(node.ctx, ast.Store):
                    attributes.add(node.attr)
        # A property with a setter is assigned like an attribute.
        self.assertLessEqual(methods & attributes, {"window"})

    def test_builtins_that_take_a_list_get_no_generator(self):
        takers = "sorted sum min max any all".split()
        for name, text in sources():
            for node in ast.walk(ast.parse(text)):
                if isinstance(node, ast.Call) and getattr(node.func, "id", None) in takers:
                    for part in node.args:
                        self.assertNotIsInstance(part, ast.GeneratorExp, (name, node.lineno))

    def test_is_stands_beside_plain_values_only(self):
        for name, text in sources():
            for node in ast.walk(ast.parse(text)):
                if isinstance(node, ast.Compare) and isinstance(node.ops[0], (ast.Is, ast.IsNot)):
                    value = getattr(node.comparators[0], "value", "other")
                    self.assertTrue(value is None or value is True or value is False, name)

    def test_only_own_errors_are_caught(self):
        own = {
            node.name for name, text in sources() if name == "errors.py"
            for node in ast.walk(ast.parse(text)) if isinstance(node, ast.ClassDef)}
        for name, text in sources():
            for node in ast.walk(ast.parse(text)):
                if isinstance(node, ast.ExceptHandler):
                    kinds = node.type.elts if isinstance(node.type, ast.Tuple) else [node.type]
                    self.assertLessEqual({kind.id for kind in kinds}, own, (name, node.lineno))

    def test_properties_and_what_they_call_change_nothing(self):
        functions = {}
        readers = []
        for _, text in sources():
            for node in ast.walk(ast.parse(text)):
                if isinstance(node, ast.FunctionDef):
                    functions[node.name] = node
                    told = [getattr(part, "id", None) for part in node.decorator_list]
                    if "property" in told or node.name in ("__eq__", "__str__", "__len__"):
                        readers.append(node)
        self.assertGreater(len(readers), 8)
        seen = []
        while readers:
            reader = readers.pop()
            seen.append(reader)
            for node in ast.walk(reader):
                if isinstance(node, (ast.Attribute, ast.Subscript)):
                    self.assertIsInstance(node.ctx, ast.Load, reader.name)
                self.assertNotIsInstance(node, (ast.AugAssign, ast.Delete, ast.Raise), reader.name)
                if isinstance(node, ast.Call):
                    # No method is called, so nothing that is held is changed by one.
                    self.assertIsInstance(node.func, ast.Name, reader.name)
                    called = functions.get(node.func.id)
                    if called is not None and called not in seen:
                        readers.append(called)

    def test_finally_only_assigns(self):
        for name, text in sources():
            for node in ast.walk(ast.parse(text)):
                for row in getattr(node, "finalbody", []):
                    for part in ast.walk(row):
                        self.assertNotIsInstance(part, (ast.Call, ast.Subscript, ast.Return), name)
                        if isinstance(part, ast.If):
                            self.assertEqual(ast.unparse(part.test).split(" ", 1)[1], "is None", name)

    def test_no_statement_that_is_not_allowed(self):
        refused = (ast.Global, ast.AsyncFunctionDef, ast.Await, ast.Div)
        for name, text in sources():
            for node in ast.walk(ast.parse(text)):
                self.assertNotIsInstance(node, refused, name)
                if isinstance(node, ast.Constant):
                    self.assertNotIsInstance(node.value, (float, complex), name)
                    self.assertFalse(isinstance(node.value, str) and "%" in node.value, name)


if __name__ == "__main__":
    unittest.main()

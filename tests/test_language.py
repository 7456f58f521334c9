"""The rules of LANGUAGE.md that a program can check without knowing what the code means."""

import ast
import builtins
import pathlib
import unittest
import warnings

import shiptrace

FOLDER = pathlib.Path(shiptrace.__file__).parent

BUILTINS = set((
    "len range enumerate zip min max sum abs sorted reversed int str bool list tuple dict set frozenset isinstance "
    "ord repr any all divmod pow getattr hasattr setattr iter next map super property staticmethod classmethod "
    "Exception ValueError TypeError KeyError IndexError LookupError ZeroDivisionError ArithmeticError OverflowError "
    "RuntimeError NotImplementedError AttributeError StopIteration NotImplemented object"
).split())

LIBRARY = {
    "heapq": "heappush heappop heapify heapreplace heappushpop",
    "math": "gcd lcm isqrt comb perm factorial",
    "itertools": "product combinations permutations chain accumulate pairwise islice zip_longest",
    "collections": "defaultdict",
    "__future__": "annotations",
}

METHODS = set((
    "append clear copy count endswith extend find get index insert isalnum isalpha isdigit islower isspace isupper "
    "items join keys ljust lower lstrip partition pop remove replace reverse rfind rjust rpartition rsplit rstrip "
    "setdefault split splitlines startswith strip update upper values zfill bit_length title capitalize swapcase "
    "casefold center expandtabs removeprefix removesuffix rindex isascii isdecimal isnumeric istitle isidentifier "
    "isprintable translate sort format add discard encode decode hex"
).split())

UNUSED_WORDS = set((
    "type typing typing_extensions enum Enum IntEnum StrEnum Flag IntFlag Generic Protocol ABC ABCMeta namedtuple "
    "NamedTuple TypedDict TYPE_CHECKING abstractmethod"
).split())

UNUSED_NAMES = set("register mro elements open input law version_info with_traceback add_note".split())

FORBIDDEN = (ast.Global, ast.AsyncFunctionDef, ast.AsyncFor, ast.AsyncWith, ast.Await, ast.Div, ast.Import)


class LanguageTest(unittest.TestCase):

    def setUp(self):
        paths = [path for path in sorted(FOLDER.iterdir()) if path.name != "__pycache__"]
        self.sources = {path.name: path.read_text(encoding="utf-8") for path in paths}
        self.trees = {name: ast.parse(source) for name, source in self.sources.items()}

    def nodes(self, *kinds):
        """Return pairs of the place and the node, for all nodes of these kinds."""
        found = []
        for name, tree in self.trees.items():
            for node in ast.walk(tree):
                if isinstance(node, kinds):
                    found.append((name + ":" + str(getattr(node, "lineno", "?")), node))
        return found

    def test_files(self):
        self.assertIn("__init__.py", self.sources)
        for name, source in self.sources.items():
            self.assertRegex(name, r"^[a-z0-9_]+\.py$")
            self.assertLessEqual(len(source.split("\n")) - 1, 399, name)
            self.assertRegex(source, r"^[ -~\n]*$", name)
            for number, line in enumerate(source.split("\n")):
                self.assertLessEqual(len(line), 120, (name, number + 1))

    def test_no_warnings(self):
        with warnings.catch_warnings():
            warnings.simplefilter("error")
            for name, source in self.sources.items():
                compile(source, name, "exec")

    def test_functions_are_short(self):
        for place, node in self.nodes(ast.FunctionDef):
            self.assertLessEqual(node.end_lineno - node.lineno + 1, 40, place)

    def test_imports(self):
        for place, node in self.nodes(ast.ImportFrom):
            self.assertEqual(node.level, 0, place)
            self.assertEqual([alias.asname for alias in node.names], [None] * len(node.names), place)
            if node.module in LIBRARY:
                words = LIBRARY[node.module].split()
                self.assertTrue(all([alias.name in words for alias in node.names]), place)
            else:
                self.check_import(place, node)

    def check_import(self, place, node):
        self.assertRegex(node.module, r"^shiptrace\.[a-z_]+$", place)
        tree = self.trees[node.module.split(".")[1] + ".py"]
        defined = [part.name for part in tree.body if isinstance(part, (ast.FunctionDef, ast.ClassDef))]
        for part in tree.body:
            if isinstance(part, ast.Assign):
                defined.extend([target.id for target in part.targets])
        for alias in node.names:
            self.assertIn(alias.name, defined, place)

    def test_imports_stand_at_the_top(self):
        for name, tree in self.trees.items():
            kinds = [isinstance(part, ast.ImportFrom) for part in tree.body if not isinstance(part, ast.Expr)]
            self.assertEqual(kinds, sorted(kinds, reverse=True), name)

    def test_no_two_files_import_from_each_other(self):
        known = {}
        for name, tree in self.trees.items():
            modules = [node.module for node in ast.walk(tree) if isinstance(node, ast.ImportFrom)]
            known[name] = [module[10:] + ".py" for module in modules if module.startswith("shiptrace.")]
        # A file may go once none of those that it imports is left.
        while known:
            free = [name for name in known if not [other for other in known[name] if other in known]]
            self.assertTrue(free, sorted(known))
            for name in free:
                del known[name]

    def test_forbidden_statements_and_signs(self):
        for place, node in self.nodes(*FORBIDDEN):
            self.fail((place, node))

    def test_constants(self):
        for place, node in self.nodes(ast.Constant):
            self.assertNotIsInstance(node.value, (float, complex), place)
            if isinstance(node.value, str):
                self.assertNotIn("%", node.value, place)

    def test_builtins(self):
        others = set(dir(builtins)) - BUILTINS
        for place, node in self.nodes(ast.Name):
            self.assertNotIn(node.id, others, place)

    def bound_names(self):
        found = [(place, node.id) for place, node in self.nodes(ast.Name) if isinstance(node.ctx, ast.Store)]
        found.extend([(place, node.arg) for place, node in self.nodes(ast.arg)])
        return found

    def test_names_are_plain_and_new(self):
        functions = [(place, node.name) for place, node in self.nodes(ast.FunctionDef, ast.ClassDef)]
        for place, name in functions + self.bound_names():
            if name.startswith("__"):
                continue
            self.assertRegex(name, r"^(_|_?[A-Za-z][A-Za-z0-9_]*)$", place)
            self.assertNotIn(name, UNUSED_NAMES, place)
        for place, name in self.bound_names():
            self.assertNotIn(name, dir(builtins), place)

    def test_no_variable_has_the_name_of_an_import_or_a_class(self):
        taken = {}
        for name, tree in self.trees.items():
            taken[name] = [part.name for part in ast.walk(tree) if isinstance(part, ast.ClassDef)]
            imports = [part for part in ast.walk(tree) if isinstance(part, ast.ImportFrom)]
            taken[name].extend([alias.name for part in imports for alias in part.names])
        for place, name in self.bound_names():
            self.assertNotIn(name, taken[place.split(":")[0]], place)

    def test_methods(self):
        own = set([node.name for _, node in self.nodes(ast.FunctionDef)])
        for place, node in self.nodes(ast.Call):
            if isinstance(node.func, ast.Attribute):
                self.assertIn(node.func.attr, METHODS | own, place)

    def test_words_that_are_not_used(self):
        for place, node in self.nodes(ast.Name, ast.Attribute, ast.arg, ast.keyword, ast.alias):
            for field in ("id", "attr", "arg", "name"):
                self.assertNotIn(getattr(node, field, ""), UNUSED_WORDS, place)

    def test_decorators(self):
        for place, node in self.nodes(ast.ClassDef):
            self.assertEqual(node.decorator_list, [], place)
        for place, node in self.nodes(ast.FunctionDef):
            for decorator in node.decorator_list:
                word = decorator.attr if isinstance(decorator, ast.Attribute) else decorator.id
                self.assertIn(word, ("property", "setter", "staticmethod", "classmethod"), place)

    def members(self):
        """Return for each class its bases, its methods, its properties and the attributes of its objects."""
        found = {}
        for _, node in self.nodes(ast.ClassDef):
            methods = [part for part in node.body if isinstance(part, ast.FunctionDef)]
            properties = [part.name for part in methods if "property" in [ast.unparse(d) for d in part.decorator_list]]
            stored = []
            for part in ast.walk(node):
                if isinstance(part, ast.Attribute) and isinstance(part.ctx, ast.Store) and part.value.id == "self":
                    stored.append(part.attr)
            names = [part.name for part in methods if part.name not in properties]
            found[node.name] = ([ast.unparse(base) for base in node.bases], names, properties, stored)
        return found

    def test_no_name_is_a_method_and_an_attribute(self):
        members = self.members()
        all_methods = [name for _, methods, _, _ in members.values() for name in methods]
        all_stored = [name for _, _, _, stored in members.values() for name in stored]
        for word, (bases, methods, properties, stored) in members.items():
            self.assertEqual(len(methods + properties), len(set(methods + properties)), word)
            for name in properties:
                self.assertNotIn(name, all_methods, word)
                self.assertNotIn(name, all_stored, word)
            for base in [word] + [base for base in bases if base in members]:
                self.assertFalse(set(methods) & set(members[base][3]), word)
                self.assertFalse(set(stored) & set(members[base][1]), word)

    def test_attributes_that_are_read_are_stored(self):
        members = self.members()
        known = set([name for _, *groups in members.values() for group in groups for name in group])
        for place, node in self.nodes(ast.Attribute):
            if isinstance(node.ctx, ast.Load) and node.attr not in METHODS:
                self.assertIn(node.attr, known, place)

    def test_what_stands_behind_a_star(self):
        for place, node in self.nodes(ast.Call):
            for argument in node.args:
                if isinstance(argument, ast.Starred):
                    self.assertIsInstance(argument.value, ast.Name, place)

    def test_module_level(self):
        for name, tree in self.trees.items():
            bound = []
            for part in tree.body:
                self.assertIsInstance(part, (ast.Expr, ast.ImportFrom, ast.FunctionDef, ast.ClassDef, ast.Assign), name)
                if isinstance(part, (ast.FunctionDef, ast.ClassDef)):
                    bound.append(part.name)
                if isinstance(part, ast.Assign):
                    bound.extend([target.id for target in part.targets])
            self.assertEqual(len(bound), len(set(bound)), name)


if __name__ == "__main__":
    unittest.main()

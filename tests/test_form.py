"""The form of the package's files, as far as it is easily seen from the outside.

This is no full check of the language: it looks for what slips in most easily.
"""

import ast
import builtins
import os
import re
import unittest

FOLDER = os.path.join(os.path.dirname(os.path.dirname(os.path.abspath(__file__))), "mobileair")

BUILTINS = set(
    "len range enumerate zip min max sum abs sorted reversed int str bool list tuple dict set isinstance ord repr "
    "any all divmod pow map iter next getattr hasattr setattr type super property staticmethod classmethod "
    "Exception ValueError TypeError KeyError IndexError LookupError ZeroDivisionError ArithmeticError OverflowError "
    "RuntimeError NotImplementedError StopIteration NotImplemented".split()
)
LIBRARY = {
    "heapq": "heappush heappop heapify heapreplace heappushpop",
    "math": "gcd lcm isqrt comb perm factorial",
    "itertools": "product combinations permutations chain accumulate pairwise islice zip_longest",
    "collections": "defaultdict deque",
}
METHODS = set(
    "append clear copy count endswith extend find get index insert isalnum isalpha isdigit islower isspace isupper "
    "items join keys ljust lower lstrip partition pop remove replace reverse rfind rjust rpartition rsplit rstrip "
    "setdefault split splitlines startswith strip update upper values zfill bit_length title capitalize swapcase "
    "casefold center expandtabs removeprefix removesuffix rindex isascii isdecimal isnumeric istitle isidentifier "
    "isprintable translate add discard sort format".split()
)
BARRED = set("register mro elements open input law version_info with_traceback add_note".split())
BARRED_VARIABLES = set(
    "attrgetter breakpoint builtins compile copyright credits delattr dir eval exec exit gc getattr globals hasattr "
    "help id importlib license locals methodcaller os quit setattr super type vars sys".split()
)
BARRED_WORDS = re.compile(
    r"\b(type|typing|typing_extensions|enum|Enum|IntEnum|StrEnum|Flag|IntFlag|Generic|Protocol|ABC|ABCMeta|namedtuple|"
    r"NamedTuple|TypedDict|TYPE_CHECKING|abstractmethod)\b|dataclass|overload|contextmanager"
)
STATEMENTS = (ast.Import, ast.AsyncFunctionDef, ast.AsyncFor, ast.AsyncWith, ast.Await)
DECORATORS = re.compile(r"property|staticmethod|classmethod|[a-z_]+\.setter")
PLAIN_NAME = re.compile(r"_|_?[A-Za-z][A-Za-z0-9_]*|__[a-z]+__")


def sources():
    found = []
    for name in sorted(os.listdir(FOLDER)):
        if name != "__pycache__":
            with open(os.path.join(FOLDER, name), encoding="utf-8", newline="") as file:
                found.append((name, file.read()))
    return found


def trees():
    return [(name, ast.parse(text)) for name, text in sources()]


def nodes(tree, kind):
    return [node for node in ast.walk(tree) if isinstance(node, kind)]


def docstrings(tree):
    """The nodes of the docstrings, which may contain what other strings may not."""
    found = []
    for node in nodes(tree, (ast.Module, ast.ClassDef, ast.FunctionDef)):
        if node.body and isinstance(node.body[0], ast.Expr) and isinstance(node.body[0].value, ast.Constant):
            found.append(node.body[0].value)
    return found


def top_names(tree):
    """The names that a file defines itself."""
    found = [node.name for node in tree.body if isinstance(node, (ast.FunctionDef, ast.ClassDef))]
    for node in tree.body:
        if isinstance(node, ast.Assign):
            found.extend(target.id for target in node.targets if isinstance(target, ast.Name))
    return found


def imported_names(tree):
    return [part.asname or part.name for node in nodes(tree, ast.ImportFrom) for part in node.names]


def local_names(tree):
    """The names of parameters, variables and nested functions."""
    found = []
    for function in nodes(tree, (ast.FunctionDef, ast.Lambda)):
        for node in ast.walk(function):
            if isinstance(node, ast.Name) and isinstance(node.ctx, ast.Store):
                found.append(node.id)
            elif isinstance(node, ast.arg):
                found.append(node.arg)
            elif isinstance(node, ast.FunctionDef) and node is not function:
                found.append(node.name)
    return found


def is_property(function):
    return any(ast.unparse(part) == "property" for part in function.decorator_list)


class FormTest(unittest.TestCase):
    def test_files_have_plain_names(self):
        names = [name for name, _ in sources()]
        self.assertIn("__init__.py", names)
        for name in names:
            self.assertRegex(name, r"\A[a-z0-9_]+\.py\Z")

    def test_lines_and_characters(self):
        for name, text in sources():
            self.assertIsNone(re.search(r"[^ -~\n]", text), name)
            self.assertLessEqual(text.count("\n"), 399, name)
            for line in text.split("\n"):
                self.assertLessEqual(len(line), 120, name)

    def test_functions_are_small(self):
        for name, tree in trees():
            for node in nodes(tree, ast.FunctionDef):
                self.assertLessEqual(node.end_lineno - node.lineno + 1, 40, (name, node.name))

    def test_attributes_are_assigned_through_a_local_name(self):
        for name, tree in trees():
            for node in nodes(tree, ast.Attribute):
                if isinstance(node.ctx, ast.Store):
                    self.assertIsInstance(node.value, ast.Name, (name, ast.unparse(node)))
                    self.assertNotIn(node.value.id, top_names(tree) + imported_names(tree), name)

    def test_decorators_stand_over_methods_only(self):
        for name, tree in trees():
            methods = [node for kind in nodes(tree, ast.ClassDef) for node in kind.body]
            for node in nodes(tree, (ast.FunctionDef, ast.ClassDef)):
                for decorator in node.decorator_list:
                    self.assertIn(node, methods, (name, node.name))
                    self.assertIsNotNone(DECORATORS.fullmatch(ast.unparse(decorator)), (name, node.name))

    def test_module_level_holds_definitions_only(self):
        kinds = (ast.ImportFrom, ast.Assign, ast.AnnAssign, ast.FunctionDef, ast.ClassDef)
        for name, tree in trees():
            for node in tree.body:
                if not (isinstance(node, ast.Expr) and node.value in docstrings(tree)):
                    self.assertIsInstance(node, kinds, name)

    def test_imports_name_the_file_that_defines_the_name(self):
        found = dict(trees())
        for name, tree in trees():
            for node in nodes(tree, ast.ImportFrom):
                self.assertIn(node, tree.body, name)
                self.assertEqual(node.level, 0, name)
                if node.module in LIBRARY:
                    self.assertLessEqual({part.name for part in node.names}, set(LIBRARY[node.module].split()), name)
                elif node.module != "__future__":
                    package, file = node.module.split(".")
                    self.assertEqual(package, "mobileair", name)
                    for part in node.names:
                        self.assertIn(part.name, top_names(found[file + ".py"]), name)

    def test_no_files_import_each_other(self):
        needs = {name[:-3]: {node.module.split(".")[-1] for node in nodes(tree, ast.ImportFrom)
                             if node.module.startswith("mobileair.")} for name, tree in trees()}
        while needs:
            free = [name for name in needs if not needs[name] & set(needs)]
            self.assertNotEqual(free, [], sorted(needs))
            for name in free:
                del needs[name]

    def test_no_other_statements_and_values(self):
        for name, tree in trees():
            for node in ast.walk(tree):
                self.assertNotIsInstance(node, STATEMENTS, name)
                self.assertNotIsInstance(getattr(node, "op", None), ast.Div, name)

    def test_strings_and_numbers(self):
        for name, tree in trees():
            free = docstrings(tree)
            for node in nodes(tree, ast.Constant):
                self.assertNotIsInstance(node.value, (float, complex), name)
                if isinstance(node.value, str) and node not in free:
                    self.assertNotIn("%", node.value, name)
                    self.assertIsNone(BARRED_WORDS.search(node.value), (name, node.value))
                    self.assertIsNone(re.search(r"\._|\b__", node.value), (name, node.value))

    def test_escapes(self):
        for name, text in sources():
            self.assertIsNone(re.search(r"\\[^nt\\\"'x]", text.replace("\\\\", "")), name)

    def test_only_the_builtins_that_are_allowed(self):
        for name, tree in trees():
            bound = set(top_names(tree)) | set(imported_names(tree)) | set(local_names(tree))
            bound |= {function.name for function in nodes(tree, ast.FunctionDef)}
            read = {node.id for node in nodes(tree, ast.Name) if isinstance(node.ctx, ast.Load)} - bound
            self.assertLessEqual(read, BUILTINS, name)
            own = set(top_names(tree)) | set(imported_names(tree)) | set(local_names(tree))
            # The examples of the README leave a name "_" among the builtins.
            self.assertEqual(own & set(dir(builtins)) - {"_"}, set(), name)

    def test_only_the_methods_that_are_allowed(self):
        own = {node.name for _, tree in trees() for node in nodes(tree, ast.FunctionDef)}
        stored = {node.attr for _, tree in trees() for node in nodes(tree, ast.Attribute)
                  if isinstance(node.ctx, ast.Store)}
        for name, tree in trees():
            for node in nodes(tree, ast.Call):
                if isinstance(node.func, ast.Attribute):
                    self.assertIn(node.func.attr, METHODS | own, name)
            for node in nodes(tree, ast.Attribute):
                self.assertIn(node.attr, METHODS | own | stored, name)

    def test_plain_names(self):
        for name, tree in trees():
            names = local_names(tree) + top_names(tree) + [node.name for node in nodes(tree, ast.FunctionDef)]
            self.assertEqual(set(names) & BARRED_VARIABLES, set(), name)
            for word in names + [node.attr for node in nodes(tree, ast.Attribute)]:
                self.assertIsNotNone(PLAIN_NAME.fullmatch(word), (name, word))
                self.assertNotIn(word, BARRED, name)
            self.assertNotIn("_", [node.id for node in nodes(tree, ast.Name) if isinstance(node.ctx, ast.Load)], name)

    def test_no_name_has_two_meanings(self):
        for name, tree in trees():
            tops = top_names(tree) + imported_names(tree)
            self.assertEqual(len(tops), len(set(tops)), name)
            classes = {node.name for node in nodes(tree, ast.ClassDef)}
            self.assertEqual(set(local_names(tree)) & (classes | set(imported_names(tree))), set(), name)

    def test_properties_and_attributes_have_names_of_their_own(self):
        classes = [kind for _, tree in trees() for kind in nodes(tree, ast.ClassDef)]
        functions = [node for kind in classes for node in kind.body if isinstance(node, ast.FunctionDef)]
        properties = {node.name for node in functions if is_property(node)}
        self.assertEqual(properties & {node.name for node in functions if not node.decorator_list}, set())
        self.assertEqual(properties & METHODS, set())
        self.assertEqual(properties & {node.attr for kind in classes for node in nodes(kind, ast.Attribute)
                                       if isinstance(node.ctx, ast.Store)}, set())
        for kind in classes:
            methods = [node.name for node in kind.body if isinstance(node, ast.FunctionDef)
                       and not any(".setter" in ast.unparse(part) for part in node.decorator_list)]
            stored = {node.attr for node in nodes(kind, ast.Attribute) if isinstance(node.ctx, ast.Store)}
            plain = set(methods) - properties
            self.assertEqual(stored & plain, set(), kind.name)
            self.assertEqual(len(methods), len(set(methods)), kind.name)


if __name__ == "__main__":
    unittest.main()

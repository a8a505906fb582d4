"""Rules of form that hold for each file of the package, as far as a tree of its code shows them."""

import ast
import builtins
import pathlib
import re
import unittest

FOLDER = pathlib.Path(__file__).resolve().parent.parent / "fallranks"

BUILTINS = set("""len range enumerate zip min max sum abs sorted reversed int str bool bytes list tuple dict set isinstance
ord repr any all divmod iter next map super property classmethod staticmethod NotImplemented Exception ValueError TypeError
KeyError IndexError LookupError ZeroDivisionError ArithmeticError OverflowError RuntimeError NotImplementedError
StopIteration""".split())
DUNDERS = set("""__init__ __eq__ __repr__ __str__ __len__ __enter__ __exit__ __call__ __iter__ __lt__ __le__ __gt__ __ge__
__ne__ __add__ __sub__ __mul__ __neg__ __bool__ __contains__ __getitem__ __setitem__""".split())
METHODS = set("""append clear copy count endswith extend find get index insert isalnum isalpha isdigit islower isspace
isupper items join keys ljust lower lstrip partition pop remove replace reverse rfind rjust rpartition rsplit rstrip
setdefault split splitlines startswith strip update upper values zfill bit_length removeprefix removesuffix add
discard __init__""".split())
BARRED_WORDS = """typing typing_extensions enum Enum IntEnum StrEnum Flag IntFlag Generic Protocol ABC ABCMeta
namedtuple NamedTuple TypedDict TYPE_CHECKING abstractmethod""".split()
BARRED_NAMES = """register mro elements open input law version_info with_traceback add_note attrgetter breakpoint builtins
compile copyright credits delattr dir eval exec exit gc getattr globals hasattr help id importlib license locals
methodcaller os quit setattr type vars""".split()
LIBRARY = ("math", "heapq", "itertools", "__future__")
STATEMENTS = (ast.Assign, ast.AugAssign, ast.AnnAssign, ast.If, ast.While, ast.For, ast.Return, ast.Break, ast.Continue,
              ast.Pass, ast.Raise, ast.Assert, ast.Delete, ast.Nonlocal, ast.Match, ast.With, ast.Try, ast.Expr,
              ast.FunctionDef, ast.ClassDef, ast.ImportFrom)
DOCUMENTED = (ast.Module, ast.ClassDef, ast.FunctionDef)
# What each file itself defines, as the document lists it; the errors have tests of their own.
INTERFACE = {
    "limits": "MOST_VARIABLES MOST_PLACES MOST_BRANCHES MOST_TESTS MOST_SAYINGS MOST_NUMBER MOST_STATES MOST_FORMS "
              "MOST_CHANGES",
    "programs": "Program", "walking": "can_take take walk rounds", "least": "least",
    "levels": "dead levels left has_row fewest", "ranks": "ranks judge fall", "bounds": "bound",
    "keeping": "unkept needless", "mends": "holds mends", "leads": "Lead", "consoles": "Console",
    "libraries": "Library", "checker": "accepts",
    "certificates": "certify_row certify_fewest certify_endless certify_within",
}


def docstrings(tree):
    """The nodes of all docstrings."""
    found = []
    for node in ast.walk(tree):
        if isinstance(node, DOCUMENTED) and ast.get_docstring(node) is not None:
            found.append(node.body[0].value)
    return found


def bound_names(tree):
    """All names that the code binds, but for attributes."""
    for node in ast.walk(tree):
        if isinstance(node, (ast.FunctionDef, ast.ClassDef)):
            yield node.name
        elif isinstance(node, ast.Name) and isinstance(node.ctx, ast.Store):
            yield node.id
        elif isinstance(node, ast.arg):
            yield node.arg
        elif isinstance(node, ast.ExceptHandler) and node.name:
            yield node.name
        elif isinstance(node, ast.alias):
            yield node.asname or node.name


def top_names(tree):
    """The names that a file itself defines at module level."""
    names = [node.name for node in tree.body if isinstance(node, (ast.FunctionDef, ast.ClassDef))]
    return names + [target.id for node in tree.body if isinstance(node, ast.Assign) for target in node.targets]


class Language(unittest.TestCase):
    """Each test tells all places that break its rule, with file and line."""

    def setUp(self):
        self.files = {}
        self.wrong = []
        for path in sorted(FOLDER.rglob("*.py")):
            code = path.read_text(encoding="utf-8")
            self.files[path.name] = (code, ast.parse(code))

    def tearDown(self):
        self.assertEqual(self.wrong, [])

    def ask(self, right, file, node, why):
        if not right:
            self.wrong.append(f"{file}, line {getattr(node, 'lineno', 1)}: {why}")

    def nodes(self, *kinds):
        for file, (_, tree) in self.files.items():
            for node in ast.walk(tree):
                if isinstance(node, kinds):
                    yield file, node

    def test_the_folder_holds_only_its_files(self):
        for path in FOLDER.iterdir():
            if path.name != "__pycache__":
                self.assertRegex(path.name, "^[a-z_]+\\.py$")
        self.assertIn("__init__.py", self.files)

    def test_the_interface_stands_in_its_files(self):
        for file, names in INTERFACE.items():
            self.assertEqual(set(names.split()) - set(top_names(self.files[file + ".py"][1])), set())

    def test_sizes_and_signs(self):
        for file, (code, tree) in self.files.items():
            lines = code.split("\n")
            self.ask(len(lines) <= 399, file, tree, "too many lines")
            self.ask(max(map(len, lines)) <= 120, file, tree, "a line is too long")
            self.ask(re.fullmatch("[ -~\n]*", code), file, tree, "a sign that may not stand")
        for file, node in self.nodes(ast.FunctionDef):
            self.ask(node.end_lineno - node.lineno < 40, file, node, "the function is too long")

    def test_imports_name_the_file_that_defines(self):
        defined = {file: top_names(tree) for file, (_, tree) in self.files.items()}
        for file, node in self.nodes(ast.Import, ast.ImportFrom):
            self.ask(isinstance(node, ast.ImportFrom) and node.level == 0, file, node, "not from .. import ..")
            self.ask(node in self.files[file][1].body, file, node, "not at module level")
            if isinstance(node, ast.Import) or node.module in LIBRARY:
                continue
            folder, _, other = node.module.partition(".")
            self.ask(folder == "fallranks" and other + ".py" in defined, file, node, "from elsewhere")
            for alias in node.names:
                self.ask(alias.name in defined.get(other + ".py", ()), file, node, f"{alias.name} is not defined there")
                used = [name for _, name in self.nodes(ast.Name) if name.id == alias.name]
                self.ask(used and alias.asname is None, file, node, f"{alias.name} is not used")

    def test_no_two_files_import_from_each_other(self):
        needs = {file: [] for file in self.files}
        for file, node in self.nodes(ast.ImportFrom):
            if node.module not in LIBRARY:
                needs[file].append(node.module.partition(".")[2] + ".py")
        while needs:
            free = [file for file in needs if not [need for need in needs[file] if need in needs]]
            self.assertTrue(free, f"these import from each other: {sorted(needs)}")
            needs = {file: needs[file] for file in needs if file not in free}

    def test_statements_and_expressions(self):
        for file, node in self.nodes(ast.stmt):
            self.ask(isinstance(node, STATEMENTS), file, node, "a statement that is not allowed")
        for file, node in self.nodes(ast.BinOp):
            self.ask(not isinstance(node.op, (ast.Div, ast.MatMult)), file, node, "an operator that is not allowed")
        for file, node in self.nodes(ast.Constant):
            self.ask(not isinstance(node.value, (float, complex)), file, node, "a number that is no integer")
        for file, node in self.nodes(ast.Compare):
            for sign, right in zip(node.ops, node.comparators):
                plain = isinstance(right, ast.Constant) and right.value in (None, True, False)
                self.ask(plain or not isinstance(sign, (ast.Is, ast.IsNot)), file, node, "is")

    def test_module_level(self):
        kinds = (ast.ImportFrom, ast.FunctionDef, ast.ClassDef, ast.Assign)
        for file, (_, tree) in self.files.items():
            for node in tree.body:
                is_docstring = node is tree.body[0] and ast.get_docstring(tree) is not None
                self.ask(isinstance(node, kinds) or is_docstring, file, node, "not at module level")
            names = top_names(tree)
            names += [alias.name for node in tree.body if isinstance(node, ast.ImportFrom) for alias in node.names]
            self.ask(len(names) == len(set(names)), file, tree, "a name is bound twice")

    def test_builtins_and_methods(self):
        own = {node.name for _, node in self.nodes(ast.FunctionDef, ast.ClassDef)}
        for file, node in self.nodes(ast.Name):
            known = BUILTINS | set(bound_names(self.files[file][1]))
            self.ask(node.id in known, file, node, f"the builtin {node.id}")
        for file, node in self.nodes(ast.Call):
            if isinstance(node.func, ast.Attribute):
                self.ask(node.func.attr in METHODS | own, file, node, f"the method {node.func.attr}")
            elif isinstance(node.func, ast.Name) and node.func.id in ("any", "all", "sum", "min", "max", "sorted"):
                given = [part for part in node.args if isinstance(part, ast.GeneratorExp)]
                self.ask(not given, file, node, "a generator expression in the place of a list")

    def test_classes_and_decorators(self):
        for file, node in self.nodes(ast.FunctionDef):
            for one in node.decorator_list:
                name = ast.unparse(one).split(".")[-1]
                self.ask(name in ("property", "classmethod", "staticmethod", "setter"), file, node, "the decorator")
            self.ask(not node.name.startswith("__") or node.name in DUNDERS, file, node, "the method")
        for file, node in self.nodes(ast.ClassDef):
            self.ask(not node.decorator_list and not node.keywords, file, node, "a decorator or a keyword")
            self.ask(len(node.bases) <= 1, file, node, "several bases")

    def test_names(self):
        for file, (_, tree) in self.files.items():
            for name in bound_names(tree):
                plain = re.fullmatch("_|_?[A-Za-z][A-Za-z0-9_]*|__[a-z]+__", name)
                free = name not in BARRED_NAMES and name not in vars(builtins)
                self.ask(plain and free, file, tree, f"the name {name}")

    def test_names_within_functions_are_no_imports_and_no_classes(self):
        for file, (_, tree) in self.files.items():
            taken = [node.name for node in tree.body if isinstance(node, ast.ClassDef)]
            taken += [alias.name for node in tree.body if isinstance(node, ast.ImportFrom) for alias in node.names]
            for function in (node for node in ast.walk(tree) if isinstance(node, ast.FunctionDef)):
                for part in function.body + [function.args]:
                    for name in bound_names(part):
                        self.ask(name not in taken, file, function, f"{name} is an import or a class")

    def test_what_leaves_a_with_statement_only_assigns(self):
        for file, node in self.nodes(ast.FunctionDef):
            if node.name != "__exit__":
                continue
            self.ask([arg.arg for arg in node.args.args] == ["self", "kind", "value", "trace"], file, node, "arguments")
            for part in node.body:
                if isinstance(part, ast.If):
                    plain = ast.unparse(part.test) == "kind is not None" and not part.orelse
                    self.ask(plain, file, part, "the test of an if")
                for row in part.body if isinstance(part, ast.If) else [part]:
                    plain = isinstance(row, ast.Assign) and isinstance(row.targets[0], ast.Attribute)
                    self.ask(plain and isinstance(row.value, ast.Attribute), file, row, "not an attribute assigned")

    def test_classes_with_items_are_not_iterated_over(self):
        for file, node in self.nodes(ast.ClassDef):
            methods = {part.name: part for part in node.body if isinstance(part, ast.FunctionDef)}
            if "__getitem__" in methods:
                self.ask("__iter__" in methods, file, node, "no __iter__")
            if "__iter__" in methods:
                body = methods["__iter__"].body
                self.ask(len(body) == 1 and isinstance(body[0], ast.Raise), file, node, "the __iter__")
            for name, method in methods.items():
                self.ask(name != "__len__" or ast.unparse(method.body[-1]).startswith("return len("), file, method, name)

    def test_attributes_are_assigned_and_are_no_methods(self):
        functions = [node for _, node in self.nodes(ast.ClassDef) for node in node.body]
        methods = {node.name for node in functions if isinstance(node, ast.FunctionDef)}
        stored = {node.attr for _, node in self.nodes(ast.Attribute) if isinstance(node.ctx, ast.Store)}
        self.assertEqual(stored & methods, set())
        for file, node in self.nodes(ast.Attribute):
            self.ask(node.attr in stored | methods | METHODS, file, node, f"the attribute {node.attr}")

    def test_strings_and_barred_words(self):
        for file, (code, tree) in self.files.items():
            told = docstrings(tree)
            self.ask(not re.search("dataclass|overload|contextmanager|_wall|chr\\(", code), file, tree, "a barred word")
            for node in ast.walk(tree):
                if isinstance(node, ast.Constant) and isinstance(node.value, str) and node not in told:
                    barred = [word for word in re.findall("\\w+", node.value) if word in BARRED_WORDS]
                    odd = re.search("%|__|\\._?$", node.value)
                    self.ask(not barred and not odd, file, node, f"the string {node.value!r}")

    def test_errors_are_caught_by_the_names_of_own_ones(self):
        own = {node.name for file, node in self.nodes(ast.ClassDef) if file == "errors.py"}
        for file, node in self.nodes(ast.ExceptHandler):
            names = re.findall("\\w+", ast.unparse(node.type)) if node.type else ["nothing"]
            self.ask(set(names) <= own | {"KeyError", "ZeroDivisionError"}, file, node, f"{names} caught")

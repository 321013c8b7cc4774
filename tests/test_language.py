"""The rules of LANGUAGE.md that can be seen mechanically, and the interface of DOC.md."""

import ast
import builtins
import pathlib
import re
import unittest

PACKAGE = pathlib.Path(__file__).resolve().parent.parent / "lawsleft"
INTERFACE = {
    "errors": {"Refused": None},
    "grounds": {
        "made_ground": "thing", "is_ground": "thing", "states": "ground", "many_states": "ground", "nought": "ground",
        "plus": "v w", "below": "v w", "price": "ground v", "key": "ground v",
    },
    "programs": {"made_program": "ground thing", "is_program": "ground thing", "placed": "ground program puts"},
    "steps": {"run": "ground program state"},
    "tables": {"table": "ground program", "same_table": "ground one two"},
    "facts": {"made_book": "thing", "is_book": "thing", "facts_of": "ground sides", "facts": "book"},
    "rules": {"rules": "book", "derivation": "book"},
    "normals": {"normal": "ground row v", "everything": "ground row", "row_right": "ground facts row"},
    "paths": {
        "walked": "ground facts lemmas start path", "path_right": "ground facts lemmas start goal path",
        "lemmas_right": "ground facts lemmas", "derivation_right": "ground facts row derivation",
    },
    "alikes": {"outcome_worth": "ground row outcome", "alike": "book one two"},
    "papers": {"why": "book one two"},
    "kernel": {"yes_right": "book one two paper", "no_right": "book one two paper"},
    "joins": {
        "implies": "one two", "same_books": "one two", "parting": "one two", "joined": "one two",
        "costs": "book sides programs",
    },
    "meets": {"meet_row": "one two", "meet_paper": "one two", "meet_right": "one two paper"},
    "onekind": {"one_kind": "book", "one_meet": "one two"},
    "cheapest": {
        "plain_form": "book program", "prices": "ground outcomes", "saved": "book program", "parting_state": "book one two",
    },
    "diagrams": {
        "leaf_at": "ground outcome number", "diagram": "ground outcomes", "walked": "ground diagram number",
        "nodes": "diagram",
    },
    "codes": {
        "is_code": "ground code", "code_of": "ground diagram", "code": "book program", "plain_code": "ground program",
    },
    "machine": {"run_code": "ground code state", "code_table": "ground code", "meter": "ground code"},
    "optimiser": {
        "threaded": "code", "reached": "code", "optimised": "book program", "road_right": "book program road",
    },
    "groundtexts": {"read_ground": "text", "print_ground": "ground"},
    "readprograms": {"read_program": "ground text"},
    "printprograms": {"print_program": "ground program"},
    "booktexts": {
        "read_law": "ground text", "print_law": "ground sides", "read_entry": "ground text",
        "print_entry": "ground word sides",
    },
    "codetexts": {"print_code": "ground code"},
    "desk": {"desk_of": "rows"},
    "desktexts": {},
    "deskrows": {},
}
METHODS_OF_CLASSES = {
    ("desk", "Desk"): {
        "__init__": "ground", "say": "hand word sides", "strike": "hand word", "put": "word program", "drop": "word",
        "undo": "hand", "redo": "hand", "entries": "", "words": "", "program": "word", "book": "", "rules": "",
        "alike": "one two", "why": "one two", "code": "word", "cheapest": "word", "costs": "sides", "classes": "",
        "row": "text", "text": "",
    },
}
LIBRARY = {
    "heapq": "heappush heappop heapify heapreplace heappushpop", "math": "gcd lcm isqrt comb perm factorial",
    "itertools": "product combinations permutations",
}
BUILTINS = (
    "len range enumerate zip min max sum abs sorted reversed int str bool list tuple dict set isinstance ord repr any "
    "all divmod ValueError KeyError ZeroDivisionError"
).split()
METHODS = (
    "append clear copy count endswith extend find get index insert isalnum isalpha isdigit islower isspace isupper "
    "items join keys ljust lower lstrip partition pop remove replace reverse rfind rjust rpartition rsplit rstrip "
    "setdefault split splitlines startswith strip update upper values zfill bit_length add discard"
).split()
# Statements and expressions that the package does without, though the rules let some of them stand.
DONE_WITHOUT = (
    ast.Global, ast.Nonlocal, ast.AsyncFunctionDef, ast.Await, ast.Lambda, ast.Yield, ast.YieldFrom, ast.With,
    ast.NamedExpr, ast.Match, ast.JoinedStr, ast.Import, ast.Delete, ast.AnnAssign, ast.Div, ast.MatMult, ast.Starred,
)
BARRED_NAMES = (
    "register mro elements open input law version_info with_traceback add_note attrgetter breakpoint builtins compile "
    "copyright credits delattr dir eval exec exit gc globals help id importlib license locals methodcaller os quit "
    "super type vars sys iter next map"
).split()
BARRED_WORDS = re.compile(
    r"\b(type|typing|typing_extensions|enum|Enum|IntEnum|StrEnum|Flag|IntFlag|Generic|Protocol|ABC|ABCMeta|namedtuple|"
    r"NamedTuple|TypedDict|TYPE_CHECKING|abstractmethod)\b|dataclass|overload|contextmanager|_wall|_WallAttr"
)


def files():
    """Return for each file of the package its name and its text."""
    return {path.stem: path.read_text(encoding="utf-8") for path in sorted(PACKAGE.glob("*.py"))}


def trees():
    return {name: ast.parse(text) for name, text in files().items()}


def nodes_of(tree, *kinds):
    return [node for node in ast.walk(tree) if isinstance(node, kinds)]


def docstrings(tree):
    """Return the nodes of all docstrings."""
    found = []
    for node in nodes_of(tree, ast.Module, ast.FunctionDef, ast.ClassDef):
        if node.body and isinstance(node.body[0], ast.Expr) and isinstance(node.body[0].value, ast.Constant):
            found.append(node.body[0].value)
    return found


def bound_at_top(tree):
    """Return the names that a file binds at module level by itself."""
    found = []
    for node in tree.body:
        if isinstance(node, (ast.FunctionDef, ast.ClassDef)):
            found.append(node.name)
        elif isinstance(node, ast.Assign):
            found.append(node.targets[0].id)
    return found


def imported(tree):
    """Return the pairs (module, name) that a file imports."""
    return [(node.module, alias.name) for node in nodes_of(tree, ast.ImportFrom) for alias in node.names]


def bound_within(tree):
    """Return all names of parameters and local variables."""
    found = [node.id for top in nodes_of(tree, ast.FunctionDef) for node in nodes_of(top, ast.Name)
             if isinstance(node.ctx, ast.Store)]
    return found + [node.arg for node in nodes_of(tree, ast.arg)]


class Interface(unittest.TestCase):
    def test_each_function_is_defined_in_its_file_with_its_arguments(self):
        for name, told in INTERFACE.items():
            tree = trees()[name]
            for function, arguments in told.items():
                if arguments is None:
                    continue
                found = [node for node in tree.body if isinstance(node, ast.FunctionDef) and node.name == function]
                self.assertEqual(len(found), 1, function)
                self.assertEqual([argument.arg for argument in found[0].args.args], arguments.split())

    def test_each_method_is_defined_in_its_class_with_its_arguments(self):
        for (name, word), told in METHODS_OF_CLASSES.items():
            made = [node for node in trees()[name].body if isinstance(node, ast.ClassDef) and node.name == word]
            self.assertEqual(len(made), 1)
            for method, arguments in told.items():
                found = [node for node in made[0].body if isinstance(node, ast.FunctionDef) and node.name == method]
                self.assertEqual(len(found), 1, method)
                self.assertEqual([argument.arg for argument in found[0].args.args], ["self"] + arguments.split())


class Files(unittest.TestCase):
    def test_the_folder_holds_nothing_else(self):
        for path in PACKAGE.iterdir():
            if path.name != "__pycache__":
                self.assertRegex(path.name, r"^(__init__|[a-z][a-z0-9_]*)\.py$")
                self.assertNotRegex(path.name, r"^(law_|test)")
                self.assertNotIn(path.stem, dir(builtins))

    def test_characters_and_sizes(self):
        for name, text in files().items():
            self.assertRegex(text, r"\A[ -~\n]*\Z", name)
            lines = text.split("\n")
            self.assertLessEqual(len(lines), 400, name)
            self.assertLessEqual(max(len(line) for line in lines), 120, name)
            for node in nodes_of(ast.parse(text), ast.FunctionDef):
                self.assertLessEqual(node.end_lineno - node.lineno + 1, 40, node.name)

    def test_each_file_and_each_function_tells_what_it_is_for(self):
        for name, tree in trees().items():
            for node in nodes_of(tree, ast.Module, ast.ClassDef, ast.FunctionDef):
                if getattr(node, "name", "") != "__init__":
                    self.assertTrue(ast.get_docstring(node), (name, getattr(node, "name", "")))


class Imports(unittest.TestCase):
    def test_they_name_the_file_that_defines_the_name(self):
        bound = {name: bound_at_top(tree) for name, tree in trees().items()}
        for name, tree in trees().items():
            for module, word in imported(tree):
                if module in LIBRARY:
                    self.assertIn(word, LIBRARY[module].split())
                else:
                    self.assertEqual(module.split(".")[0], "lawsleft")
                    self.assertIn(word, bound[module.split(".")[1]], name)

    def test_what_is_imported_is_used(self):
        for name, tree in trees().items():
            used = [node.id for node in nodes_of(tree, ast.Name)]
            for _, word in imported(tree):
                self.assertIn(word, used, name)

    def test_no_two_files_import_from_each_other(self):
        leans = {name: sorted({module.split(".")[1] for module, _ in imported(tree) if module not in LIBRARY})
                 for name, tree in trees().items()}
        while leans:
            free = [name for name in leans if not [other for other in leans[name] if other in leans]]
            self.assertTrue(free, leans)
            leans = {name: leans[name] for name in leans if name not in free}


class Language(unittest.TestCase):
    def test_module_level(self):
        for name, tree in trees().items():
            seen = []
            for node in tree.body[1:]:
                self.assertIsInstance(node, (ast.ImportFrom, ast.FunctionDef, ast.ClassDef, ast.Assign), name)
                if isinstance(node, ast.ImportFrom):
                    seen.extend(alias.name for alias in node.names)
                    self.assertEqual([alias.asname for alias in node.names], [None] * len(node.names))
            seen += bound_at_top(tree)
            self.assertEqual(len(seen), len(set(seen)), name)

    def test_what_the_package_does_without(self):
        for name, tree in trees().items():
            for node in nodes_of(tree, *DONE_WITHOUT):
                self.fail((name, node.lineno, node))
            for node in nodes_of(tree, ast.FunctionDef, ast.ClassDef):
                self.assertEqual(node.decorator_list, [], name)
            for node in nodes_of(tree, ast.Constant):
                self.assertNotIsInstance(node.value, (float, complex, bytes), name)

    def test_strings(self):
        for name, tree in trees().items():
            free = docstrings(tree)
            for node in nodes_of(tree, ast.Constant):
                if isinstance(node.value, str):
                    self.assertNotIn("%", node.value, name)
                    if node not in free:
                        self.assertIsNone(BARRED_WORDS.search(node.value), name)

    def test_names(self):
        for name, tree in trees().items():
            top = [word for _, word in imported(tree)] + [node.name for node in nodes_of(tree, ast.ClassDef)]
            names = bound_within(tree) + [node.name for node in nodes_of(tree, ast.FunctionDef, ast.ClassDef)]
            for word in names + bound_at_top(tree):
                self.assertNotIn(word, dir(builtins), name)
                self.assertNotIn(word, BARRED_NAMES, name)
                self.assertNotRegex(word, r"^(_wall|_pe_|_dcw_|_enum_|_cm_|_twin_re_|_lay_|_law_|_stub_|_sre)")
                self.assertIsNone(BARRED_WORDS.search(word), name)
            for word in bound_within(tree):
                self.assertNotIn(word, top, name)
                if word.startswith("_"):
                    self.assertEqual(word, "_")

    def test_builtins(self):
        for name, tree in trees().items():
            known = bound_at_top(tree) + [word for _, word in imported(tree)] + bound_within(tree)
            known.extend(node.name for node in nodes_of(tree, ast.ExceptHandler) if node.name)
            for node in nodes_of(tree, ast.Name):
                if node.id not in known:
                    self.assertIn(node.id, BUILTINS, (name, node.lineno))
                if node.id == "_":
                    self.assertIsInstance(node.ctx, ast.Store)

    def test_methods_and_attributes(self):
        methods, stored = [], []
        for tree in trees().values():
            for made in nodes_of(tree, ast.ClassDef):
                methods.extend(node.name for node in made.body if isinstance(node, ast.FunctionDef))
            stored.extend(node.attr for node in nodes_of(tree, ast.Attribute) if isinstance(node.ctx, ast.Store))
        self.assertEqual([word for word in stored if word in methods or word in METHODS], [])
        for name, tree in trees().items():
            called = [node.func for node in nodes_of(tree, ast.Call) if isinstance(node.func, ast.Attribute)]
            for node in nodes_of(tree, ast.Attribute):
                if ast.unparse(node) in ("self.__class__.__name__", "self.__class__"):
                    continue
                there = METHODS + methods if node in called else stored
                self.assertIn(node.attr, there, (name, node.lineno))

    def test_comparisons_by_is(self):
        for name, tree in trees().items():
            for node in nodes_of(tree, ast.Compare):
                for sign, side in zip(node.ops, node.comparators):
                    if isinstance(sign, (ast.Is, ast.IsNot)):
                        self.assertIsInstance(side, ast.Constant, (name, node.lineno))

    def test_errors_that_are_caught_and_raised(self):
        own = bound_at_top(trees()["errors"])
        for name, tree in trees().items():
            for node in nodes_of(tree, ast.ExceptHandler):
                self.assertIn(node.type.id, own, (name, node.lineno))
            for node in nodes_of(tree, ast.Raise):
                self.assertIn(node.exc.func.id, own, (name, node.lineno))

    def test_what_loops_go_over_is_not_changed_in_them(self):
        changing = ("append", "clear", "extend", "insert", "pop", "remove", "reverse", "setdefault", "update")
        for name, tree in trees().items():
            for loop in nodes_of(tree, ast.For):
                over = {ast.unparse(node) for node in nodes_of(loop.iter, ast.Name, ast.Attribute)}
                for node in [call for row in loop.body for call in nodes_of(row, ast.Call)]:
                    if isinstance(node.func, ast.Attribute) and node.func.attr in changing:
                        self.assertNotIn(ast.unparse(node.func.value), over, (name, node.lineno))

    def test_keywords_are_not_passed_to_builtins(self):
        for name, tree in trees().items():
            for node in nodes_of(tree, ast.Call):
                if node.keywords and isinstance(node.func, ast.Name) and node.func.id in BUILTINS:
                    self.assertIn(node.func.id, ("sorted", "min", "max", "sum", "enumerate"), (name, node.lineno))


if __name__ == "__main__":
    unittest.main()

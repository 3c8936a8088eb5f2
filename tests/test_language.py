"""Rules of the language that can be read off the files of the package."""

import ast
import builtins
import pathlib
import unittest

PACKAGE = pathlib.Path(__file__).resolve().parent.parent / "broodcounts"
BUILTINS = """len range enumerate zip min max sum abs sorted reversed int str bool list tuple dict set frozenset
    isinstance ord repr any all divmod pow getattr hasattr iter next map type super property staticmethod classmethod
    Exception ValueError TypeError KeyError IndexError LookupError ZeroDivisionError ArithmeticError OverflowError
    RuntimeError NotImplementedError AttributeError StopIteration NotImplemented True False None""".split()
LIBRARY = {
    "heapq": "heappush heappop heapify heapreplace heappushpop", "math": "gcd lcm isqrt comb perm factorial",
    "itertools": "product combinations permutations chain accumulate pairwise islice zip_longest",
    "collections": "defaultdict deque",
}
DUNDERS = """init eq repr str len enter exit call iter lt le gt ge ne add sub mul floordiv mod pow and or xor lshift
    rshift neg pos invert abs bool contains getitem setitem""".split()
EAGER = ("any", "all", "min", "max", "sum", "sorted")
BARRED = (ast.Global, ast.AsyncFunctionDef, ast.Await, ast.AsyncFor, ast.AsyncWith, ast.Import, ast.Div, ast.MatMult)


def files():
    return sorted(PACKAGE.rglob("*.py"))


def read_trees():
    return [ast.parse(path.read_text(encoding="ascii")) for path in files()]


def is_builtin(name):
    # The interpreter's prompt (doctests, too) leaves its last answer under _.
    return hasattr(builtins, name) and name != "_"


def defined_names(tree):
    return [node.name for node in tree.body if isinstance(node, (ast.FunctionDef, ast.ClassDef))] + [
        target.id for node in tree.body if isinstance(node, ast.Assign) for target in node.targets]


def given_names(tree):
    """Every name that a file gives a meaning, but for methods and attributes."""
    methods = [row for node in ast.walk(tree) if isinstance(node, ast.ClassDef) for row in node.body]
    for node in ast.walk(tree):
        if isinstance(node, ast.Name) and isinstance(node.ctx, ast.Store):
            yield node.id
        elif isinstance(node, ast.arg):
            yield node.arg
        elif isinstance(node, (ast.FunctionDef, ast.ClassDef)) and node not in methods:
            yield node.name


def strings_but_docstrings(tree):
    docs = [node.body[0].value for node in ast.walk(tree)
            if isinstance(node, (ast.Module, ast.ClassDef, ast.FunctionDef)) and ast.get_docstring(node) is not None]
    return [node.value for node in ast.walk(tree)
            if isinstance(node, ast.Constant) and isinstance(node.value, str) and node not in docs]


class LanguageTest(unittest.TestCase):
    def test_the_package_holds_plain_files_only(self):
        for path in PACKAGE.rglob("*"):
            if "__pycache__" not in path.parts and path.is_file():
                self.assertRegex(path.name, r"^(__init__|[a-z][a-z0-9_]*)\.py$")
                self.assertNotRegex(path.name, "^test")

    def test_files_lines_and_characters(self):
        for path in files():
            text = path.read_text(encoding="ascii")
            with self.subTest(file=path.name):
                self.assertTrue(all(" " <= sign <= "~" or sign == "\n" for sign in text))
                self.assertLessEqual(len(text.splitlines()), 399)
                self.assertLessEqual(max(map(len, text.splitlines())), 120)

    def test_functions_have_at_most_forty_lines(self):
        for tree in read_trees():
            for node in ast.walk(tree):
                if isinstance(node, ast.FunctionDef):
                    self.assertLessEqual(node.end_lineno - node.lineno + 1, 40, node.name)

    def test_only_plain_things_stand_at_module_level(self):
        kinds = (ast.Expr, ast.ImportFrom, ast.FunctionDef, ast.ClassDef, ast.Assign)
        for tree in read_trees():
            for at, node in enumerate(tree.body):
                self.assertIsInstance(node, kinds)
                self.assertTrue(at == 0 or not isinstance(node, ast.Expr))
            names = defined_names(tree)
            self.assertEqual(len(names), len(set(names)))

    def test_imports_name_the_file_that_defines_the_name(self):
        there = {f"broodcounts.{path.stem}": defined_names(ast.parse(path.read_text())) for path in files()}
        there.update({module: names.split() for module, names in LIBRARY.items()})
        for tree in read_trees():
            for node in ast.walk(tree):
                if isinstance(node, ast.ImportFrom):
                    self.assertEqual(node.level, 0)
                    for name in node.names:
                        self.assertIn(name.name, there[node.module])
                        self.assertIsNone(name.asname)

    def test_no_two_files_import_from_each_other(self):
        imports = {path.stem: [node.module.split(".")[1] for node in ast.walk(ast.parse(path.read_text()))
                               if isinstance(node, ast.ImportFrom) and node.module.startswith("broodcounts.")]
                   for path in files()}
        while imports:
            free = [name for name, needed in imports.items() if not set(needed) & set(imports)]
            self.assertTrue(free, f"a ring of imports among {sorted(imports)}")
            imports = {name: needed for name, needed in imports.items() if name not in free}

    def test_only_allowed_builtins_and_no_other_meaning_for_one(self):
        for tree in read_trees():
            for name in given_names(tree):
                self.assertFalse(is_builtin(name), name)
            for node in ast.walk(tree):
                if isinstance(node, ast.Name) and is_builtin(node.id):
                    self.assertIn(node.id, BUILTINS)

    def test_only_allowed_statements_and_signs(self):
        for tree in read_trees():
            for node in ast.walk(tree):
                self.assertNotIsInstance(node, BARRED)
                self.assertFalse(isinstance(node, ast.Constant) and isinstance(node.value, (float, complex)))
                if isinstance(node, ast.FunctionDef) and node.name.startswith("__"):
                    self.assertIn(node.name.strip("_"), DUNDERS)

    def test_lists_instead_of_generator_expressions(self):
        # A class of the package has __eq__ and operators, so these take lists.
        for tree in read_trees():
            for node in ast.walk(tree):
                if isinstance(node, ast.Call) and isinstance(node.func, ast.Name) and node.func.id in EAGER:
                    self.assertFalse(any(isinstance(passed, ast.GeneratorExp) for passed in node.args))

    def test_no_attribute_is_assigned_that_has_the_name_of_a_property(self):
        nodes = [node for tree in read_trees() for node in ast.walk(tree)]
        properties = {node.name for node in nodes if isinstance(node, ast.FunctionDef) and node.decorator_list}
        self.assertIn("kinds", properties)
        for node in nodes:
            if isinstance(node, ast.Attribute) and isinstance(node.ctx, ast.Store):
                self.assertNotIn(node.attr, properties)

    def test_no_parameter_or_variable_has_the_name_of_an_import(self):
        for tree in read_trees():
            imported = {name.name for node in tree.body if isinstance(node, ast.ImportFrom) for name in node.names}
            self.assertFalse(imported & set(given_names(tree)))

    def test_no_method_of_a_set_has_the_name_of_a_method_of_the_package(self):
        # A document has a method called add, so that no set is stored and added to.
        for tree in read_trees():
            for node in ast.walk(tree):
                if isinstance(node, ast.Call) and isinstance(node.func, ast.Attribute):
                    self.assertNotIn(node.func.attr, ("add", "discard"))

    def test_kept_answers_stand_in_their_own_class_only(self):
        kept = ("_machine", "_closure", "_full_closure", "_prospects")
        for path in files():
            nodes = list(ast.walk(ast.parse(path.read_text())))
            found = [node.attr for node in nodes if isinstance(node, ast.Attribute) and node.attr in kept]
            # Each is set by __init__, and tested, set and returned by its property.
            self.assertEqual({name: found.count(name) for name in kept}, dict.fromkeys(kept, 4 if path.stem == "books" else 0))

    def test_neither_errors_caught_nor_generators_nor_annotations(self):
        for tree in read_trees():
            for node in ast.walk(tree):
                self.assertNotIsInstance(node, (ast.Try, ast.GeneratorExp, ast.Yield, ast.YieldFrom, ast.AnnAssign))

    def test_no_sort_in_place_and_no_remainder_sign_in_strings(self):
        for tree in read_trees():
            for node in ast.walk(tree):
                self.assertFalse(isinstance(node, ast.Attribute) and node.attr == "sort")
            self.assertFalse([text for text in strings_but_docstrings(tree) if "%" in text])


if __name__ == "__main__":
    unittest.main()

"""The package's files and some of the rules that its code keeps to (shared/LANGUAGE.md)."""

import ast
import builtins
import os
import re
import subprocess
import sys
import unittest

ROOT = os.path.dirname(os.path.dirname(os.path.abspath(__file__)))
PACKAGE = os.path.join(ROOT, "groundlots")
IN_ORDER = ["errors", "words", "rules", "texts", "held", "lots", "labels", "telling", "network", "contexts", "ranks",
            "change", "standings", "keeper", "machines", "told", "desk"]
LIBRARY = {"math": ["gcd"]}
FILES = sorted(["__init__.py"] + [f"{name}.py" for name in IN_ORDER])

# L25 Methods of builtin values, of which the code may call these.
BUILTIN_METHODS = """append clear copy count endswith extend find get index insert isalnum isalpha isdigit islower
    isspace isupper items join keys ljust lower lstrip partition pop remove replace reverse rfind rjust rpartition
    rsplit rstrip setdefault split splitlines startswith strip update upper values zfill bit_length
    add discard""".split()

# L17 Words that occur nowhere but in comments and docstrings.
BARRED = """type typing typing_extensions enum Enum IntEnum StrEnum Flag IntFlag Generic Protocol ABC ABCMeta namedtuple
    NamedTuple TypedDict TYPE_CHECKING abstractmethod register mro elements open input law version_info with_traceback
    add_note""".split()


def source(name):
    with open(os.path.join(PACKAGE, name), encoding="utf-8") as file:
        return file.read()


def tree(name):
    return ast.parse(source(name))


def nodes(*kinds):
    """All nodes of these kinds in all files, each with its file's name."""
    for name in FILES:
        for node in ast.walk(tree(name)):
            if isinstance(node, kinds):
                yield name, node


def defined_in(module):
    """The names that a file of the package defines."""
    there = tree(module.split(".")[1] + ".py").body
    found = [row.name for row in there if isinstance(row, (ast.FunctionDef, ast.ClassDef))]
    return found + [row.targets[0].id for row in there if isinstance(row, ast.Assign)]


def is_plain(value, whole):
    """Whether a value at module level is a literal, or a dict from literals to functions of the file above it."""
    above = [row.name for row in whole.body if isinstance(row, ast.FunctionDef) and row.lineno < value.lineno]
    if isinstance(value, ast.Dict):
        return all(isinstance(one, ast.Constant) for one in value.keys) and all(
            isinstance(one, ast.Constant) or isinstance(one, ast.Name) and one.id in above for one in value.values)
    ast.literal_eval(value)
    return True


def is_docstring(node, parent):
    return (isinstance(node, ast.Expr) and isinstance(node.value, ast.Constant) and isinstance(node.value.value, str)
            and isinstance(parent, (ast.Module, ast.FunctionDef, ast.ClassDef)) and parent.body[0] is node)


def without_docstrings(name):
    """A file's code as text, without comments and docstrings."""
    whole = tree(name)
    for parent in ast.walk(whole):
        if hasattr(parent, "body") and isinstance(parent.body, list) and parent.body:
            if is_docstring(parent.body[0], parent):
                parent.body[0] = ast.Pass()
    return ast.unparse(whole)


def bound_in(function):
    """The names that a function binds: its parameters, and what it assigns."""
    found = {one.arg for one in ast.walk(function.args) if isinstance(one, ast.arg)}
    stored = [one for one in ast.walk(function) if isinstance(one, ast.Name) and isinstance(one.ctx, ast.Store)]
    return found | {one.id for one in stored}


class Package(unittest.TestCase):
    def test_the_folder_has_these_files_and_nothing_else(self):
        there = [name for name in os.listdir(PACKAGE) if name != "__pycache__"]
        self.assertEqual(sorted(there), FILES)

    def test_init_binds_nothing(self):
        ask = "import groundlots; print([name for name in vars(groundlots) if not name.startswith('__')])"
        told = subprocess.run([sys.executable, "-c", ask], cwd=ROOT, check=True, capture_output=True, text=True)
        self.assertEqual(told.stdout, "[]\n")
        for row in tree("__init__.py").body:
            self.assertIsInstance(row, ast.Expr)
            self.assertIsInstance(row.value, ast.Constant)

    def test_files_import_from_files_ahead_of_them_alone(self):
        for at, module in enumerate(IN_ORDER):
            allowed = [f"groundlots.{name}" for name in IN_ORDER[:at]]
            for node in ast.walk(tree(f"{module}.py")):
                self.assertNotIsInstance(node, ast.Import, module)
                if isinstance(node, ast.ImportFrom):
                    self.assertEqual(node.level, 0)
                    self.assertIn(node.module, allowed + list(LIBRARY))

    def test_imports_name_the_file_that_defines_the_name_and_are_used(self):
        for name, node in nodes(ast.ImportFrom):
            defined = LIBRARY[node.module] if node.module in LIBRARY else defined_in(node.module)
            used = {one.id for one in ast.walk(tree(name)) if isinstance(one, ast.Name)}
            for one in node.names:
                self.assertIsNone(one.asname)
                self.assertIn(one.name, defined, name)
                self.assertIn(one.name, used, name)


class Sizes(unittest.TestCase):
    def test_lines_and_signs(self):
        for name in FILES:
            rows = source(name).split("\n")
            self.assertLess(len(rows), 400, name)
            for row in rows:
                self.assertLessEqual(len(row), 120, (name, row))
                self.assertTrue(all(" " <= sign <= "~" for sign in row), (name, row))
                self.assertEqual(row, row.rstrip(), name)

    def test_functions(self):
        for name, node in nodes(ast.FunctionDef):
            self.assertLessEqual(node.end_lineno - node.lineno + 1, 40, (name, node.name))
            self.assertEqual(node.decorator_list, [])

    def test_module_level(self):
        kinds = (ast.Expr, ast.ImportFrom, ast.FunctionDef, ast.ClassDef, ast.Assign)
        for name in FILES:
            for row in tree(name).body:
                self.assertIsInstance(row, kinds, name)
                if isinstance(row, ast.Assign):
                    self.assertTrue(is_plain(row.value, tree(name)), (name, row.lineno))


class Language(unittest.TestCase):
    def test_no_statements_and_expressions_beyond_the_small_ones(self):
        barred = (ast.GeneratorExp, ast.Yield, ast.YieldFrom, ast.Global, ast.Nonlocal, ast.AsyncFunctionDef, ast.Await,
                  ast.With, ast.Match, ast.NamedExpr, ast.Set, ast.SetComp, ast.Div, ast.Mod, ast.Pow, ast.MatMult,
                  ast.Assert, ast.Delete, ast.AnnAssign)
        for name, node in nodes(*barred):
            self.fail((name, ast.dump(node)))

    def test_constants(self):
        for name, node in nodes(ast.Constant):
            self.assertIsInstance(node.value, (int, str, type(None)), name)
            self.assertFalse(isinstance(node.value, str) and "%" in node.value, name)

    def test_words(self):
        for name in FILES:
            there = set(re.findall(r"\w+", without_docstrings(name)))
            self.assertEqual(sorted(there & set(BARRED)), [], name)

    def test_sets_stand_in_len_and_sorted_alone(self):
        for name in FILES:
            asked = [node.args[0] for node in ast.walk(tree(name)) if isinstance(node, ast.Call) and not node.keywords
                     and isinstance(node.func, ast.Name) and node.func.id in ("len", "sorted")]
            at = {(one.lineno, one.col_offset) for one in asked}
            for node in ast.walk(tree(name)):
                if isinstance(node, ast.Call) and isinstance(node.func, ast.Name) and node.func.id == "set":
                    self.assertIn((node.lineno, node.col_offset), at, name)

    def test_no_name_of_a_builtin_or_an_import_is_bound(self):
        for name in FILES:
            taken = set(dir(builtins))
            for node in ast.walk(tree(name)):
                if isinstance(node, ast.ImportFrom):
                    taken |= {one.name for one in node.names}
                if isinstance(node, ast.ClassDef):
                    taken.add(node.name)
            functions = [node for node in ast.walk(tree(name)) if isinstance(node, ast.FunctionDef)]
            tops = [row.name for row in tree(name).body if isinstance(row, ast.FunctionDef)]
            for node in functions:
                self.assertEqual(sorted((bound_in(node) - {"_"}) & taken), [], (name, node.name))
            self.assertEqual(sorted(set(tops) & taken), [], name)
            self.assertEqual(len(tops), len(set(tops)), name)

    def test_is_stands_beside_none_true_and_false_alone(self):
        for name, node in nodes(ast.Compare):
            for sign, thing in zip(node.ops, node.comparators):
                if isinstance(sign, (ast.Is, ast.IsNot)):
                    self.assertIsInstance(thing, ast.Constant, name)

    def test_words_of_the_library_are_called_by_place_and_nothing_else(self):
        words = [word for words in LIBRARY.values() for word in words]
        for name in FILES:
            called = [node for node in ast.walk(tree(name)) if isinstance(node, ast.Call)
                      and isinstance(node.func, ast.Name) and node.func.id in words]
            named = [node for node in ast.walk(tree(name)) if isinstance(node, ast.Name) and node.id in words]
            self.assertEqual([node.func.id for node in called], [node.id for node in named], name)
            for node in called:
                self.assertEqual(node.keywords, [])

    def test_super_calls_a_method_and_nothing_else(self):
        for name in FILES:
            called = [node.func.value for node in ast.walk(tree(name)) if isinstance(node, ast.Call)
                      and isinstance(node.func, ast.Attribute) and not node.func.attr.startswith("__")]
            at = {(one.lineno, one.col_offset) for one in called}
            for node in ast.walk(tree(name)):
                if isinstance(node, ast.Call) and isinstance(node.func, ast.Name) and node.func.id == "super":
                    self.assertIn((node.lineno, node.col_offset), at, name)
                    self.assertEqual((node.args, node.keywords), ([], []))

    def test_names_begin_with_two_underscores_only_where_python_wants_them(self):
        allowed = {"__init__", "__str__", "__eq__", "__class__", "__name__"}
        for name in FILES:
            there = set(re.findall(r"\b__\w+", without_docstrings(name)))
            self.assertLessEqual(there, allowed, name)

    def test_functions_in_tables_are_given_a_name_ahead_of_their_call(self):
        for name, node in nodes(ast.Call):
            self.assertIsInstance(node.func, (ast.Name, ast.Attribute), name)

    def test_methods_that_are_called(self):
        own = {node.name for _, node in nodes(ast.FunctionDef)}
        for name, node in nodes(ast.Call):
            if isinstance(node.func, ast.Attribute):
                self.assertIn(node.func.attr, own | set(BUILTIN_METHODS), name)

    def test_no_attribute_has_the_name_of_a_method(self):
        methods = {row.name for _, node in nodes(ast.ClassDef) for row in node.body if isinstance(row, ast.FunctionDef)}
        stored = {node.attr for _, node in nodes(ast.Attribute) if isinstance(node.ctx, ast.Store)}
        self.assertEqual(sorted(methods & stored), [])

    def test_own_errors_alone_are_raised_and_caught(self):
        own = [row.name for row in tree("errors.py").body if isinstance(row, ast.ClassDef)]
        for name, node in nodes(ast.Raise):
            self.assertIn(node.exc.func.id, own, name)
        for name, node in nodes(ast.ExceptHandler):
            self.assertIn(node.type.id, own, name)


if __name__ == "__main__":
    unittest.main()

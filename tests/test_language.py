"""The files of the package keep to the language rules, as far as can be seen by looking at each part alone."""

import ast
import builtins
import unittest
from pathlib import Path

PACKAGE = Path(__file__).resolve().parent.parent / "ballchutes"
LIBRARY = {"math": {"gcd", "lcm", "isqrt", "comb", "perm", "factorial"}}
CALLED = set("""len range enumerate zip min max sum abs sorted reversed int str bool list tuple dict set isinstance ord
                repr any all divmod super""".split())
# Functions that are told to a function, or stand in a table.
GIVEN = {"deed", "read"}
ERRORS = {"ValueError", "TypeError", "KeyError", "IndexError"}
METHODS = set("""append clear copy count endswith extend find get index insert isalnum isalpha isdigit islower isspace
                 isupper items join keys ljust lower lstrip partition pop remove replace reverse rfind rjust rpartition
                 rsplit rstrip setdefault split splitlines startswith strip update upper values zfill
                 bit_length""".split())
DUNDERS = set("""__init__ __eq__ __repr__ __str__ __len__ __iter__ __bool__ __contains__ __getitem__ __enter__
                 __exit__""".split())
STATEMENTS = (ast.Assign, ast.AugAssign, ast.If, ast.While, ast.For, ast.Return, ast.Break, ast.Continue, ast.Pass,
              ast.Raise, ast.Assert, ast.Delete, ast.Expr, ast.With, ast.FunctionDef, ast.ClassDef, ast.ImportFrom,
              ast.Try)
BARRED = ("type", "typing", "enum", "Enum", "Generic", "Protocol", "ABC", "namedtuple", "Meta", "dataclass", "overload",
          "register", "mro", "elements", "open", "input", "law", "_wall")
VIEWS = {"zip", "enumerate", "reversed", "range"}
# Examples that are run give "_" a meaning there.
BUILTINS = set(dir(builtins)) - {"_"}


def files():
    return sorted(path for path in PACKAGE.rglob("*") if "__pycache__" not in path.parts)


def text_of(path):
    return path.read_text(encoding="utf-8")


def trees():
    return [(path.name, ast.parse(text_of(path))) for path in files()]


def parts(kind):
    return [(name, part) for name, tree in trees() for part in ast.walk(tree) if isinstance(part, kind)]


def bound_names(tree):
    """The names that parameters, assignments, loops and comprehensions give."""
    names = [part.arg for part in ast.walk(tree) if isinstance(part, ast.arg)]
    return names + [part.id for part in ast.walk(tree) if isinstance(part, ast.Name) and isinstance(part.ctx, ast.Store)]


class Files(unittest.TestCase):
    """L1, L10, L14."""

    def test_plain_files(self):
        self.assertTrue(files())
        for path in files():
            self.assertTrue(path.suffix == ".py" and path.stem.replace("_", "a").isalnum(), path)
            self.assertEqual(path.name, path.name.lower())

    def test_sizes_and_characters(self):
        for path in files():
            lines = text_of(path).split("\n")
            self.assertLessEqual(len(lines), 399, path)
            self.assertTrue(all(len(line) <= 120 for line in lines), path)
            self.assertTrue(all(" " <= sign <= "~" or sign == "\n" for sign in text_of(path)), path)

    def test_functions_are_small(self):
        for name, part in parts(ast.FunctionDef):
            self.assertLessEqual(part.end_lineno - part.lineno + 1, 40, (name, part.name))


class Names(unittest.TestCase):
    """L2, L12, L15, L16, L17."""

    def test_imports_name_the_file_that_defines_the_name(self):
        defined = {f"ballchutes.{name[:-3]}": self.defined(tree) for name, tree in trees()}
        for name, part in parts((ast.Import, ast.ImportFrom)):
            self.assertIsInstance(part, ast.ImportFrom, name)
            told = {alias.name for alias in part.names}
            self.assertTrue(all(alias.asname is None for alias in part.names), name)
            self.assertLessEqual(told, LIBRARY.get(part.module, defined.get(part.module, set())), name)

    def defined(self, tree):
        return {part.name for part in tree.body if isinstance(part, (ast.FunctionDef, ast.ClassDef))} | {
            target.id for part in tree.body if isinstance(part, ast.Assign) for target in part.targets}

    def test_no_two_files_import_from_each_other(self):
        leads = {name[:-3]: {part.module.split(".")[1] for part in tree.body
                             if isinstance(part, ast.ImportFrom) and part.module.startswith("ballchutes.")}
                 for name, tree in trees()}
        while leads:
            free = [name for name, others in leads.items() if not others & set(leads)]
            self.assertTrue(free, leads)
            leads = {name: others for name, others in leads.items() if name not in free}

    def test_all_that_is_imported_is_used(self):
        for name, tree in trees():
            used = {part.id for part in ast.walk(tree) if isinstance(part, ast.Name)}
            for part in tree.body:
                if isinstance(part, ast.ImportFrom):
                    self.assertLessEqual({alias.name for alias in part.names}, used, name)

    def test_no_name_has_two_meanings(self):
        for name, tree in trees():
            kept = [part.name for part in tree.body if isinstance(part, ast.ClassDef)]
            kept += [alias.name for part in tree.body if isinstance(part, ast.ImportFrom) for alias in part.names]
            given = kept + [part.name for part in tree.body if isinstance(part, ast.FunctionDef)]
            given += [target.id for part in tree.body if isinstance(part, ast.Assign) for target in part.targets]
            self.assertEqual(len(given), len(set(given)), name)
            self.assertFalse(set(given) & BUILTINS, name)
            self.assertFalse(set(bound_names(tree)) & (set(kept) | BUILTINS), name)

    def test_barred_words(self):
        for name, tree in trees():
            words = bound_names(tree) + [part.attr for part in ast.walk(tree) if isinstance(part, ast.Attribute)]
            words += [part.name for part in ast.walk(tree) if isinstance(part, (ast.FunctionDef, ast.ClassDef))]
            for word in words:
                self.assertNotIn(word, BARRED)
                self.assertTrue(word in DUNDERS or not word.startswith("__"), (name, word))


    def test_words_that_occur_nowhere(self):
        for path in files():
            for word in ("Meta", "(type)", "metaclass=", "_wall", "dataclass", "overload", "contextmanager"):
                self.assertNotIn(word, text_of(path), path)

    def test_no_name_is_a_method_and_an_attribute_of_one_class(self):
        for name, part in parts(ast.ClassDef):
            methods = {method.name for method in part.body if isinstance(method, ast.FunctionDef)}
            given = {told.attr for told in ast.walk(part) if isinstance(told, ast.Attribute)
                     and isinstance(told.ctx, ast.Store)}
            self.assertFalse(methods & given, (name, part.name))

    def test_attributes_that_are_read_are_given(self):
        given = {part.attr for _, part in parts(ast.Attribute) if isinstance(part.ctx, ast.Store)} | {"MOST"}
        for name, tree in trees():
            called = {id(part.func) for part in ast.walk(tree) if isinstance(part, ast.Call)}
            for part in ast.walk(tree):
                if isinstance(part, ast.Attribute) and isinstance(part.ctx, ast.Load) and id(part) not in called:
                    self.assertIn(part.attr, given, (name, part.lineno))


class Parts(unittest.TestCase):
    """L3 to L9, L19 to L28."""

    def test_module_level(self):
        for name, tree in trees():
            for part in tree.body[1:]:
                self.assertIsInstance(part, (ast.ImportFrom, ast.FunctionDef, ast.ClassDef, ast.Assign), name)
            self.assertTrue(ast.get_docstring(tree), name)

    def test_statements(self):
        for name, part in parts(ast.stmt):
            self.assertIsInstance(part, STATEMENTS, name)
            self.assertFalse(getattr(part, "decorator_list", []), name)

    def test_expressions(self):
        for name, part in parts((ast.expr, ast.operator)):
            self.assertNotIsInstance(part, (ast.GeneratorExp, ast.Set, ast.SetComp, ast.Await, ast.Div, ast.MatMult,
                                            ast.Lambda, ast.NamedExpr, ast.YieldFrom), name)
            if isinstance(part, ast.Constant):
                self.assertIsInstance(part.value, (int, str, bool, type(None)), name)

    def test_strings(self):
        documented = (ast.Module, ast.ClassDef, ast.FunctionDef)
        docs = {id(part.body[0].value) for _, part in parts(documented) if ast.get_docstring(part)}
        for name, part in parts(ast.Constant):
            if isinstance(part.value, str) and id(part) not in docs:
                self.assertNotIn("%", part.value, name)
                self.assertFalse(set(part.value.split()) & set(BARRED), name)

    def test_calls(self):
        own = {part.name for _, part in parts((ast.FunctionDef, ast.ClassDef))}
        errors = {part.name for _, part in parts(ast.ClassDef)}
        for name, part in parts(ast.Call):
            if isinstance(part.func, ast.Name):
                self.assertIn(part.func.id, CALLED | GIVEN | ERRORS | own | errors | LIBRARY["math"], name)
            else:
                self.assertIsInstance(part.func, ast.Attribute, name)
                self.assertIn(part.func.attr, METHODS | own, name)
            self.assertFalse(any(isinstance(told, ast.Starred) for told in part.args)
                             and part.func.id != "zip", (name, part.lineno))

    def test_methods_have_own_names(self):
        for name, part in parts(ast.ClassDef):
            values = [value for value in part.body[1:] if isinstance(value, ast.Assign)]
            self.assertTrue(all(isinstance(value.value, ast.Constant) for value in values), name)
            for method in part.body[1 + len(values):]:
                self.assertIsInstance(method, ast.FunctionDef, name)
                kinds = (str, int, list, dict, tuple, set, bytes)
                self.assertTrue(method.name in DUNDERS or not any(hasattr(kind, method.name) for kind in kinds))

    def test_views_are_iterated_on_the_spot(self):
        for name, part in parts((ast.Assign, ast.Return, ast.Compare)):
            told = [part.left, *part.comparators] if isinstance(part, ast.Compare) else [part.value]
            if isinstance(part, ast.Compare) and isinstance(part.ops[0], (ast.In, ast.NotIn)):
                continue
            for value in told:
                if isinstance(value, ast.Call):
                    called = value.func.id if isinstance(value.func, ast.Name) else value.func.attr
                    self.assertNotIn(called, VIEWS | {"items", "keys", "values"}, (name, part.lineno))

    def test_what_is_raised_is_made_on_the_spot(self):
        for name, part in parts(ast.Raise):
            self.assertIsInstance(part.exc, ast.Call, name)
            self.assertIsInstance(part.exc.func, ast.Name, name)

    def test_own_errors_alone_are_caught(self):
        own = {part.name for name, part in parts(ast.ClassDef) if name == "errors.py"}
        for name, part in parts(ast.Try):
            self.assertFalse(part.finalbody, name)
            for handler in part.handlers:
                self.assertIsInstance(handler.type, ast.Name, name)
                self.assertIn(handler.type.id, own, name)

    def test_is_stands_with_none_alone(self):
        for name, part in parts(ast.Compare):
            if isinstance(part.ops[0], (ast.Is, ast.IsNot)):
                self.assertIsNone(part.comparators[0].value, name)

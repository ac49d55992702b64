"""What LANGUAGE.md says of names, builtins, methods, imports and expressions, as far as the text of a file shows it."""

import ast
import builtins
import pathlib
import unittest

FOLDER = pathlib.Path(__file__).resolve().parent.parent / "lastfords"
BUILTINS = set("""len range enumerate zip min max sum abs sorted reversed int str bool list tuple dict set isinstance ord
    repr any all divmod pow map iter Exception ValueError TypeError KeyError IndexError LookupError
    ZeroDivisionError ArithmeticError OverflowError RuntimeError NotImplementedError NotImplemented""".split())
METHODS = set("""append clear copy count endswith extend find get index insert isalnum isalpha isdigit islower isspace
    isupper items join keys ljust lower lstrip partition pop remove replace reverse rfind rjust rpartition rsplit rstrip
    setdefault split splitlines startswith strip update upper values zfill bit_length isascii add discard""".split())
BARRED = set("""register mro elements open input law version_info with_traceback add_note attrgetter breakpoint builtins
    compile copyright credits delattr dir eval exec exit gc globals help id importlib license locals methodcaller os quit
    vars sys typing enum Enum Generic Protocol ABC namedtuple dataclass overload""".split())
ATTRIBUTES = set("items keys values pop update append clear extend insert remove reverse setdefault sort args encode decode"
                 " hex fromhex format".split())
SIMPLE = (ast.Module, ast.Expr, ast.ImportFrom, ast.ClassDef, ast.FunctionDef, ast.Assign)
# The document itself calls this function and a parameter of another one alike.
OWN_PARAMETERS = {"looks": {"plan"}}
BUILTIN_KEYWORDS = {"sorted": {"key", "reverse"}, "min": {"key", "default"}, "max": {"key", "default"},
                    "sum": {"start"}, "enumerate": {"start"}, "zip": {"strict"}}


def bound_names(tree):
    """The names of functions and classes, parameters, variables and imports."""
    for node in ast.walk(tree):
        if isinstance(node, (ast.FunctionDef, ast.ClassDef)):
            yield node.name
        elif isinstance(node, ast.arg):
            yield node.arg
        elif isinstance(node, ast.Name) and isinstance(node.ctx, ast.Store):
            yield node.id
        elif isinstance(node, ast.alias):
            yield node.name
        elif isinstance(node, ast.ExceptHandler) and node.name is not None:
            yield node.name


class LanguageTest(unittest.TestCase):

    def setUp(self):
        self.trees = {path.stem: ast.parse(path.read_text(encoding="ascii")) for path in sorted(FOLDER.glob("*.py"))}
        self.own = {node.name for tree in self.trees.values() for node in ast.walk(tree)
                    if isinstance(node, (ast.FunctionDef, ast.ClassDef))}

    def nodes(self, *kinds):
        for name, tree in self.trees.items():
            for node in ast.walk(tree):
                if isinstance(node, kinds):
                    yield f"{name}:{node.lineno}", node

    def test_names(self):
        for name, tree in self.trees.items():
            methods = {item.name for node in ast.walk(tree) if isinstance(node, ast.ClassDef) for item in node.body
                       if isinstance(item, ast.FunctionDef)}
            for word in bound_names(tree):
                self.assertTrue(word.isascii() and word not in BARRED, (name, word))
                self.assertFalse(hasattr(builtins, word) and word not in methods, (name, word))
                self.assertTrue(not word.startswith("__") or word in methods, (name, word))

    def test_what_is_bound_at_module_level_is_bound_nowhere_else(self):
        for name, tree in self.trees.items():
            top = [node.name for node in tree.body if isinstance(node, (ast.FunctionDef, ast.ClassDef))]
            top.extend(alias.name for node in tree.body if isinstance(node, ast.ImportFrom) for alias in node.names)
            self.assertEqual(len(top), len(set(top)), name)
            inner = {node.arg for node in ast.walk(tree) if isinstance(node, ast.arg)}
            inner |= {node.id for node in ast.walk(tree) if isinstance(node, ast.Name) and isinstance(node.ctx, ast.Store)}
            self.assertEqual(inner & set(top), OWN_PARAMETERS.get(name, set()), name)

    def test_builtins(self):
        for name, tree in self.trees.items():
            known = set(bound_names(tree))
            for node in ast.walk(tree):
                if isinstance(node, ast.Name) and node.id not in known:
                    self.assertIn(node.id, {*BUILTINS, "property", "staticmethod"}, (name, node.lineno))

    def test_methods_and_keywords(self):
        for place, node in self.nodes(ast.Call):
            if isinstance(node.func, ast.Attribute):
                self.assertIn(node.func.attr, METHODS | self.own, place)
            elif isinstance(node.func, ast.Name) and node.func.id not in self.own:
                self.assertLessEqual({word.arg for word in node.keywords}, BUILTIN_KEYWORDS.get(node.func.id, set()), place)

    def test_attributes(self):
        for place, node in self.nodes(ast.Attribute):
            if isinstance(node.ctx, ast.Store):
                self.assertNotIn(node.attr, ATTRIBUTES | self.own, place)

    def test_expressions_and_statements_that_are_not_used(self):
        barred = (ast.GeneratorExp, ast.Global, ast.AsyncFunctionDef, ast.Await, ast.Yield, ast.YieldFrom, ast.Import,
                  ast.AnnAssign, ast.NamedExpr, ast.Div, ast.Pow, ast.Mod)
        self.assertEqual([place for place, _ in self.nodes(*barred)], [])
        for place, node in self.nodes(ast.Constant):
            self.assertNotIsInstance(node.value, (float, complex), place)
            self.assertNotIn("%", str(node.value), place)
        for name, tree in self.trees.items():
            self.assertTrue(all(isinstance(node, SIMPLE) for node in tree.body), name)

    def test_sets_stand_where_they_may(self):
        self.assertEqual([place for place, _ in self.nodes(ast.Set, ast.SetComp)], [])
        for place, node in self.nodes(ast.stmt):
            for call in [part for part in ast.walk(node) if isinstance(part, ast.Call)]:
                for part in (part for wide in call.args for part in self.sides(wide) if self.is_set(part)):
                    self.assertIn(ast.unparse(call.func), ("sorted", "len"), place)
        for place, node in self.nodes(ast.FunctionDef):
            kept = {item.targets[0].id for item in ast.walk(node) if isinstance(item, ast.Assign) and self.is_set(item.value)}
            gone_over = [item.iter for item in ast.walk(node) if isinstance(item, (ast.For, ast.comprehension))]
            self.assertEqual([one.id for one in gone_over if isinstance(one, ast.Name) and one.id in kept], [], place)
            self.assertFalse(any(self.is_set(one) for one in gone_over), place)

    def sides(self, node):
        """What stands on both sides of signs between sets."""
        return [*self.sides(node.left), *self.sides(node.right)] if isinstance(node, ast.BinOp) else [node]

    def is_set(self, node):
        return isinstance(node, ast.Call) and ast.unparse(node.func) == "set"

    def test_no_two_files_import_from_each_other(self):
        asked = {name: {node.module.split(".")[1] for node in tree.body if isinstance(node, ast.ImportFrom)
                        and node.module.startswith("lastfords.")} for name, tree in self.trees.items()}
        for name in asked:
            reached, ahead = set(), set(asked[name])
            while ahead:
                reached |= ahead
                ahead = {further for other in ahead for further in asked[other]} - reached
            self.assertNotIn(name, reached)

    def test_imports_name_the_file_that_defines(self):
        for name, tree in self.trees.items():
            for node in tree.body:
                if isinstance(node, ast.ImportFrom) and node.module.startswith("lastfords."):
                    there = {item.name for item in self.trees[node.module.split(".")[1]].body
                             if isinstance(item, (ast.FunctionDef, ast.ClassDef))}
                    self.assertLessEqual({alias.name for alias in node.names}, there, name)
                    self.assertTrue(all(alias.asname is None for alias in node.names), name)


if __name__ == "__main__":
    unittest.main()

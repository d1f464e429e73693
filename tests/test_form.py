"""Rules of the language of the program that can be read off its files."""

import ast
import builtins
import os
import re
import unittest

ROOT = os.path.dirname(os.path.dirname(os.path.abspath(__file__)))
PACKAGE = os.path.join(ROOT, "sparebridges")
DEFINED = {
    "limits": ["MOST_ISLANDS", "MOST_BRIDGES", "MOST_PRICE", "MOST_OFFERS"],
    "errors": [
        "WrongValue", "InvalidText", "InvalidNumber", "InvalidName", "InvalidWish", "InvalidIndex", "NotASea",
        "InvalidIslands", "InvalidBridges", "InvalidWishes", "InvalidEnds", "InvalidPrices", "InvalidForward",
        "InvalidOffers", "InvalidGrowth", "WrongName", "UnknownName", "NoAnswer", "TooWeak", "TooMany",
        "NothingToUndo", "Broken",
    ],
    "seas": ["Sea"],
    "strengths": ["strength", "between", "cut", "least_cuts", "tree", "is_fulfilled"],
    "needed": ["needed", "joined", "for_all"],
    "ends": ["end_range", "are_ends", "cheapest", "new_bridges"],
    "closing": ["closable"],
    "offers": ["fulfilling"],
    "oneway": ["most_ways", "one_way", "in_range", "ways_of", "ins_of"],
    "arrows": ["arrows_needed", "new_arrows"],
    "growth": ["grown"],
    "coasts": ["Coast"],
    "books": ["Book"],
    "checker": ["accepts"],
    "certificates": ["certify_between", "certify_needed", "certify_ends", "certify_ways", "certify_arrows"],
}
BUILTINS = set(
    "len range enumerate zip min max sum abs sorted reversed int str bool list tuple dict set isinstance ord repr any "
    "all divmod property classmethod staticmethod NotImplemented Exception ValueError TypeError KeyError IndexError "
    "LookupError ZeroDivisionError ArithmeticError OverflowError RuntimeError NotImplementedError map iter next".split())
BARRED = set(
    "type typing enum Enum Generic Protocol ABC namedtuple register mro elements open input law breakpoint compile "
    "dir eval exec exit gc globals help id locals os quit vars sys".split())


def read(name):
    with open(os.path.join(PACKAGE, name), encoding="utf-8") as file:
        return file.read()


def files():
    return {name: read(name) for name in sorted(os.listdir(PACKAGE)) if name != "__pycache__"}


def nodes(*kinds):
    """Each node of these kinds, with the name of its file."""
    trees = [(name, ast.parse(text)) for name, text in files().items()]
    return [(name, node) for name, tree in trees for node in ast.walk(tree) if isinstance(node, kinds)]


def bound(tree):
    """The names that the statements of a file bind themselves, without its imports."""
    names = []
    for row in tree.body:
        if isinstance(row, (ast.ClassDef, ast.FunctionDef)):
            names.append(row.name)
        if isinstance(row, ast.Assign):
            names.extend(target.id for target in row.targets)
    return names


class FormTest(unittest.TestCase):
    def test_files_and_their_size(self):
        for name, text in files().items():
            self.assertRegex(name, r"^[a-z_]+\.py$")
            self.assertRegex(text, r"\A[ -~\n]*\Z", name)
            self.assertLessEqual(len(text.splitlines()), 399, name)
            self.assertLessEqual(max(len(line) for line in [""] + text.splitlines()), 120, name)

    def test_functions_have_at_most_forty_lines(self):
        for name, node in nodes(ast.FunctionDef):
            self.assertLessEqual(node.end_lineno - node.lineno, 39, (name, node.name))

    def test_the_interface_is_defined_in_its_files(self):
        for module, names in DEFINED.items():
            tree = ast.parse(files()[module + ".py"])
            self.assertEqual([name for name in names if name not in bound(tree)], [])

    def test_names_are_bound_once_and_are_no_builtins(self):
        for file, text in files().items():
            names = bound(ast.parse(text))
            self.assertEqual(len(names), len(set(names)), file)
        for name, node in nodes(ast.Name, ast.arg):
            word = node.arg if isinstance(node, ast.arg) else node.id
            if isinstance(node, ast.arg) or isinstance(node.ctx, ast.Store):
                # A run of examples leaves a name "_" among the builtins.
                self.assertFalse(hasattr(builtins, word) and word != "_", (name, word))
            elif hasattr(builtins, word):
                self.assertIn(word, BUILTINS, name)
            self.assertNotIn(word, BARRED, name)

    def test_no_name_within_a_file_is_an_import_or_a_class_of_it(self):
        for file, text in files().items():
            tree = ast.parse(text)
            taken = {told.name for node in ast.walk(tree) if isinstance(node, ast.ImportFrom) for told in node.names}
            taken |= {node.name for node in ast.walk(tree) if isinstance(node, ast.ClassDef)}
            told = {node.arg for node in ast.walk(tree) if isinstance(node, ast.arg)}
            told |= {
                node.id for node in ast.walk(tree) if isinstance(node, ast.Name) and isinstance(node.ctx, ast.Store)}
            self.assertEqual(taken & told, set(), file)

    def test_imports_go_one_way(self):
        after = {}
        for name, node in nodes(ast.ImportFrom):
            after.setdefault(name, set()).add(node.module.split(".")[1] + ".py")
        while after:
            last = [name for name in after if not after[name] & set(after)]
            self.assertNotEqual(last, [], after)
            after = {name: after[name] for name in after if name not in last}

    def test_methods_that_are_called(self):
        builtin = set("append index split join".split())
        own = {node.name for _, node in nodes(ast.FunctionDef)}
        for name, node in nodes(ast.Call):
            if isinstance(node.func, ast.Attribute):
                self.assertIn(node.func.attr, builtin | own, (name, node.func.attr))

    def test_keywords_of_builtins(self):
        allowed = {("sorted", "key"), ("sorted", "reverse"), ("min", "key"), ("max", "key")}
        for name, node in nodes(ast.Call):
            if isinstance(node.func, ast.Name) and hasattr(builtins, node.func.id):
                for keyword in node.keywords:
                    self.assertIn((node.func.id, keyword.arg), allowed, name)

    def test_imports_name_the_file_that_defines_the_name(self):
        self.assertEqual(nodes(ast.Import), [])
        for name, node in nodes(ast.ImportFrom):
            self.assertEqual(node.level, 0, name)
            package, module = node.module.split(".")
            self.assertEqual(package, "sparebridges", name)
            known = bound(ast.parse(files()[module + ".py"]))
            for told in node.names:
                self.assertTrue(told.name in known and told.asname is None, (name, told.name))

    def test_kinds_of_statements_and_expressions(self):
        barred = (
            ast.AsyncFunctionDef, ast.Global, ast.Nonlocal, ast.GeneratorExp, ast.Div, ast.Set, ast.SetComp, ast.AnnAssign)
        self.assertEqual([(name, node.lineno) for name, node in nodes(*barred)], [])
        for name, node in nodes(ast.Constant):
            self.assertNotIsInstance(node.value, float, name)

    def test_is_stands_beside_none_true_false_and_self(self):
        for name, node in nodes(ast.Compare):
            for op, right in zip(node.ops, node.comparators):
                if isinstance(op, (ast.Is, ast.IsNot)):
                    kept = ast.unparse(right) in ("None", "True", "False")
                    self.assertTrue(kept or ast.unparse(node) == "self is other", name)

    def test_nothing_is_read_off_a_class(self):
        # Where this is so, self may stand beside "is".
        classes = {node.name for _, node in nodes(ast.ClassDef)}
        for name, node in nodes(ast.Attribute):
            self.assertNotIn(ast.unparse(node.value), classes | {"super()"}, name)

    def test_a_class_with_items_says_that_it_is_not_iterated_over(self):
        for name, node in nodes(ast.ClassDef):
            methods = {row.name: row for row in node.body if isinstance(row, ast.FunctionDef)}
            if "__getitem__" in methods:
                rows = methods["__iter__"].body
                self.assertEqual([len(rows), ast.unparse(rows[0])[:16]], [1, "raise TypeError("], name)
            self.assertEqual("__enter__" in methods, "__exit__" in methods, name)

    def test_rows_of_exit(self):
        row = re.compile(r"(\w+ = self\.\w+|(self|\w+)\.\w+ = \w+\.\w+)")
        for name, node in nodes(ast.FunctionDef):
            if node.name == "__exit__":
                rows = [ast.unparse(each) for each in ast.walk(node) if isinstance(each, ast.stmt)][1:]
                for text in rows:
                    kept = row.fullmatch(text) or text.startswith("if kind is not None:")
                    self.assertTrue(kept, (name, text))

    def test_a_table_of_functions_is_called_by_a_name(self):
        for name, node in nodes(ast.Call):
            self.assertIsInstance(node.func, (ast.Name, ast.Attribute), (name, node.lineno))

    def test_decorators_and_double_underscores(self):
        allowed = (
            "__init__ __eq__ __str__ __len__ __bool__ __contains__ __getitem__ __setitem__ __iter__ __enter__ __exit__")
        for name, node in nodes(ast.FunctionDef):
            for decorator in node.decorator_list:
                self.assertIn(ast.unparse(decorator), ("property", "classmethod", "staticmethod"), name)
            if node.name.startswith("__"):
                self.assertIn(node.name, allowed.split(), name)
        for name, node in nodes(ast.Attribute):
            self.assertFalse(node.attr.startswith("__") and node.attr != "__init__", (name, node.attr))

    def test_strings(self):
        for name, node in nodes(ast.Constant):
            if isinstance(node.value, str):
                self.assertFalse(re.search(r"%|__", node.value), (name, node.value))


if __name__ == "__main__":
    unittest.main()

"""The form of the code: those rules of LANGUAGE.md that a short look at the tree can see."""

import ast
import builtins
import re
import unittest
from pathlib import Path

PACKAGE = Path(__file__).parent.parent / "anylength"
FILES = sorted(PACKAGE.glob("*.py"))

BUILTINS = set(
    "len range enumerate zip min max sum abs sorted reversed int str bool list tuple dict set "
    "isinstance ord repr any all divmod ValueError KeyError".split()
)
# What may stand over a method or be called in one, and nowhere else.
IN_CLASSES = set("iter property classmethod".split())
OWN_METHODS = set("put_contract put_body decide judge apply lacks sound _change _keep _back_to".split())
METHODS = set(
    "append clear copy count endswith extend find get index insert isalnum isalpha isdigit "
    "islower isspace isupper items join keys ljust lower lstrip partition pop remove replace "
    "reverse rfind rjust rpartition rsplit rstrip setdefault split splitlines startswith strip "
    "update upper values zfill bit_length __init__".split()
)
NODES = set(
    "Module Expr Constant ImportFrom alias FunctionDef ClassDef arguments arg Return Assign "
    "AugAssign If For While Break Continue Pass Raise Name Load Store Attribute Call Subscript "
    "Slice Tuple List Dict ListComp DictComp SetComp comprehension IfExp BoolOp And Or UnaryOp "
    "Not USub BinOp Add Sub Mult FloorDiv Mod Pow Compare Eq NotEq Lt LtE Gt GtE Is IsNot In "
    "NotIn JoinedStr FormattedValue Starred keyword Yield Lambda Try ExceptHandler Delete Del "
    "LShift".split()
)
DOUBLE_UNDERSCORES = ("__init__", "__len__", "__iter__", "__contains__")
# Names that rules L8, L15 and L17 keep free, beside those of the builtins above.
BARRED = set(
    "mro elements open input law version_info with_traceback add_note register type iter next "
    "map filter hash round id format object vars eval exec compile dir exit help print slice "
    "super property staticmethod classmethod callable bytes frozenset chr pow getattr".split()
)
BARRED_WORDS = ("type", "typing", "enum", "Enum", "Flag", "Generic", "Protocol", "ABC")


def parsed(path):
    return ast.parse(path.read_text(encoding="ascii"))


def method_names(tree):
    """The names of all methods; an import may have such a name, too."""
    for node in ast.walk(tree):
        if isinstance(node, ast.ClassDef):
            yield from (part.name for part in node.body if isinstance(part, ast.FunctionDef))


def bound_names(tree):
    """All names that a tree binds, with those of parameters, but without those of methods."""
    methods = [part for node in ast.walk(tree) if isinstance(node, ast.ClassDef) for part in node.body]
    for node in ast.walk(tree):
        if isinstance(node, (ast.FunctionDef, ast.ClassDef)) and node not in methods:
            yield node.name
        elif isinstance(node, ast.arg):
            yield node.arg
        elif isinstance(node, ast.Name) and isinstance(node.ctx, ast.Store):
            yield node.id


def imports_of(tree):
    return [node for node in tree.body if isinstance(node, ast.ImportFrom)]


def module_path(name):
    return PACKAGE.parent / (name.replace(".", "/") + ".py")


class Form(unittest.TestCase):
    def each(self):
        return [(path, parsed(path)) for path in FILES]

    def test_files(self):
        names = {path.name for path in PACKAGE.iterdir() if path.name != "__pycache__"}
        self.assertEqual(names, {path.name for path in FILES})
        self.assertIn("__init__.py", names)
        for path in FILES:
            self.assertRegex(path.name, r"\A[a-z_0-9]+\.py\Z")

    def test_sizes_and_characters(self):
        for path, tree in self.each():
            text = path.read_text(encoding="ascii")
            self.assertRegex(text, r"\A[ -~\n]*\Z")
            lines = text.split("\n")
            self.assertLessEqual(len(lines), 399)
            self.assertLessEqual(max(map(len, lines)), 120)
            for node in ast.walk(tree):
                if isinstance(node, ast.FunctionDef):
                    self.assertLessEqual(node.end_lineno - node.lineno + 1, 40, node.name)

    def test_only_plain_words_of_the_language(self):
        for _, tree in self.each():
            for node in ast.walk(tree):
                self.assertIn(type(node).__name__, NODES, getattr(node, "lineno", 0))
                if isinstance(node, (ast.FunctionDef, ast.ClassDef)):
                    documented = ast.get_docstring(node) is not None
                    self.assertTrue(documented or node.name in DOUBLE_UNDERSCORES, node.name)
                if isinstance(node, ast.arg):
                    self.assertIsNone(node.annotation)
                if isinstance(node, ast.Constant):
                    self.assertIn(type(node.value), (int, str, bool, type(None)))
                if isinstance(node, ast.Constant) and isinstance(node.value, str):
                    self.assertNotIn("%", node.value)

    def test_decorators_stand_over_methods(self):
        for _, tree in self.each():
            methods = [part for node in tree.body if isinstance(node, ast.ClassDef)
                       for part in node.body if isinstance(part, ast.FunctionDef)]
            for node in ast.walk(tree):
                decorators = [one.id for one in getattr(node, "decorator_list", ())]
                self.assertIn(decorators, ([], ["property"], ["classmethod"]))
                self.assertTrue(not decorators or node in methods)

    def test_errors_that_are_caught(self):
        for _, tree in self.each():
            for node in ast.walk(tree):
                if isinstance(node, ast.Try):
                    self.assertEqual([one.type.id for one in node.handlers], ["AnylengthError"])
                    self.assertEqual((node.orelse, node.finalbody), ([], []))

    def test_module_level(self):
        for _, tree in self.each():
            self.assertIsNotNone(ast.get_docstring(tree))
            for node in tree.body[1:]:
                kinds = (ast.ImportFrom, ast.FunctionDef, ast.ClassDef, ast.Assign)
                self.assertIsInstance(node, kinds)
                if isinstance(node, ast.Assign):
                    self.assertEqual(len(node.targets), 1)
                    self.assertIsInstance(node.targets[0], ast.Name)
                    ast.literal_eval(node.value)

    def test_imports_are_from_the_files_that_define_the_names(self):
        for _, tree in self.each():
            for node in imports_of(tree):
                self.assertEqual(node.level, 0)
                self.assertTrue(node.module.startswith("anylength."))
                there = parsed(module_path(node.module)).body
                defined = [one.name for one in there if isinstance(one, (ast.FunctionDef, ast.ClassDef))]
                defined += [one.targets[0].id for one in there if isinstance(one, ast.Assign)]
                for alias in node.names:
                    self.assertIsNone(alias.asname)
                    self.assertIn(alias.name, defined)

    def test_no_file_imports_from_itself_through_others(self):
        links = {path: [module_path(n.module) for n in imports_of(tree)] for path, tree in self.each()}
        done = []
        while len(done) < len(links):
            free = [p for p in links if p not in done and all(q in done for q in links[p])]
            self.assertTrue(free, "files import from each other")
            done += free

    def test_names(self):
        for _, tree in self.each():
            imported = {alias.name for node in imports_of(tree) for alias in node.names}
            once = [n.name for n in tree.body if isinstance(n, (ast.FunctionDef, ast.ClassDef))]
            self.assertEqual(len(once), len(set(once)))
            for name in bound_names(tree):
                self.assertNotIn(name, imported)
            for name in [*bound_names(tree), *method_names(tree)]:
                if name not in DOUBLE_UNDERSCORES:
                    self.assertRegex(name, r"\A(_|_?[A-Za-z][A-Za-z0-9_]*)\Z")
                    self.assertNotIn(name, BUILTINS | BARRED)
                    self.assertFalse(hasattr(builtins, name), name)

    def test_names_that_are_read_are_bound_or_allowed(self):
        for _, tree in self.each():
            known = set(bound_names(tree)) | BUILTINS | IN_CLASSES
            known |= {alias.name for node in imports_of(tree) for alias in node.names}
            for node in ast.walk(tree):
                if isinstance(node, ast.Name):
                    self.assertIn(node.id, known)
                    self.assertFalse(node.id == "_" and isinstance(node.ctx, ast.Load))
                if isinstance(node, ast.Call) and isinstance(node.func, ast.Attribute):
                    self.assertIn(node.func.attr, METHODS | OWN_METHODS)

    def test_imported_names_are_used(self):
        for _, tree in self.each():
            read = {node.id for node in ast.walk(tree) if isinstance(node, ast.Name)}
            for node in imports_of(tree):
                for alias in node.names:
                    self.assertIn(alias.name, read)

    def test_is_stands_beside_none_true_and_false(self):
        for _, tree in self.each():
            for node in ast.walk(tree):
                if isinstance(node, ast.Compare):
                    for op, right in zip(node.ops, node.comparators):
                        if isinstance(op, (ast.Is, ast.IsNot)):
                            self.assertIsInstance(right, ast.Constant)
                            self.assertIn(right.value, (None, True, False))

    def test_sets_stand_only_where_they_are_sorted_or_counted(self):
        for _, tree in self.each():
            held = set()
            for node in ast.walk(tree):
                if isinstance(node, ast.Call) and isinstance(node.func, ast.Name):
                    if node.func.id in ("sorted", "len"):
                        held.update(id(part) for part in node.args)
            for node in ast.walk(tree):
                is_call = isinstance(node, ast.Call) and isinstance(node.func, ast.Name)
                if is_call and node.func.id == "set":
                    self.assertIn(id(node), held)
                self.assertNotIsInstance(node, (ast.Set, ast.GeneratorExp))

    def test_barred_words(self):
        for _, tree in self.each():
            for node in ast.walk(tree):
                words = [getattr(node, field, None) for field in ("id", "attr", "arg", "name")]
                for word in words:
                    if isinstance(word, str):
                        self.assertNotIn(word, BARRED_WORDS)

    def test_what_loops_go_over_is_not_changed_in_them(self):
        changing = re.compile(r"append|clear|extend|insert|pop|remove|reverse|setdefault|update")
        for _, tree in self.each():
            for loop in ast.walk(tree):
                if not isinstance(loop, ast.For):
                    continue
                over = {node.id for node in ast.walk(loop.iter) if isinstance(node, ast.Name)}
                for node in (part for line in loop.body for part in ast.walk(line)):
                    if isinstance(node, ast.Attribute) and changing.fullmatch(node.attr):
                        self.assertFalse(isinstance(node.value, ast.Name) and node.value.id in over)
                    if isinstance(node, ast.Subscript) and isinstance(node.ctx, ast.Store):
                        self.assertFalse(isinstance(node.value, ast.Name) and node.value.id in over)


if __name__ == "__main__":
    unittest.main()

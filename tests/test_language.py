"""The rules of the language that can be seen from the code of the package alone."""

import ast
import builtins
import pathlib
import re
import unittest

FOLDER = pathlib.Path(__file__).resolve().parent.parent / "byteshape"
FILES = sorted(path for path in FOLDER.rglob("*.py"))
OF_PYTHON = [name for name in dir(builtins) if name[0] != "_"]
USED_BUILTINS = set("""len range enumerate zip min max sum abs sorted reversed int str bool list tuple dict set isinstance ord
    repr any all divmod ValueError super property""".split())
METHODS = set("""append clear copy count endswith extend find get index insert isalnum isalpha isdigit islower isspace isupper items
    join keys ljust lower lstrip partition pop remove replace reverse rfind rjust rpartition rsplit rstrip setdefault split
    splitlines startswith strip update upper values zfill bit_length add discard""".split())
BARRED = set("""register mro elements open input law version_info with_traceback add_note attrgetter breakpoint builtins compile
    copyright credits delattr dir eval exec exit gc globals help id importlib license locals methodcaller os quit setattr type vars
    sys""".split())
NODES = (ast.Global, ast.AsyncFunctionDef, ast.AsyncFor, ast.AsyncWith, ast.Await, ast.Delete, ast.Assert, ast.Lambda, ast.With,
         ast.Div, ast.Set, ast.SetComp, ast.GeneratorExp, ast.NamedExpr, ast.Nonlocal, ast.AnnAssign, ast.YieldFrom)
ALLOWED_NODES = (ast.Delete, ast.Assert, ast.Lambda)
# What is walked on the spot (L23): these calls stand only where they are walked through at once.
AT_ONCE = ("range", "zip", "enumerate", "reversed")
VIEWS = ("items", "keys", "values")
WALKERS = ("list", "tuple", "dict", "sorted", "sum", "any", "all", "enumerate", "zip", "bytes")


def parsed(path):
    """The tree of a file."""
    return ast.parse(path.read_text(encoding="utf-8"))


def bound_names(tree):
    """All names that a file binds anywhere."""
    for node in ast.walk(tree):
        if isinstance(node, ast.Name) and isinstance(node.ctx, ast.Store):
            yield node.id
        elif isinstance(node, ast.arg):
            yield node.arg
        elif isinstance(node, (ast.FunctionDef, ast.ClassDef)):
            yield node.name


def called(node):
    """The name of the builtin, or of the method, that is called; None for anything else."""
    if not isinstance(node, ast.Call):
        return None
    return node.func.id if isinstance(node.func, ast.Name) else getattr(node.func, "attr", None)


def is_walked_at_once(node):
    """Whether this is a call whose answer is not stored."""
    if not isinstance(node, ast.Call):
        return False
    names = AT_ONCE if isinstance(node.func, ast.Name) else VIEWS
    return called(node) in names


def walks(call, node):
    """Whether L23 lists that this call walks through this part of it."""
    name = called(call)
    if isinstance(call.func, ast.Attribute):
        return name == "join" and isinstance(call.func.value, ast.Constant)
    if name in WALKERS:
        return node is call.args[0]
    if name in ("min", "max"):
        return len(call.args) == 1 and [word.arg for word in call.keywords] in ([], ["default"])
    if name == "len":
        return called(node) in ("range",) + VIEWS
    return name == "reversed" and called(node) == "range"


def stored(tree):
    """The lines of the calls that L23 wants walked at once, and that stand somewhere else."""
    found = []
    for node in ast.walk(tree):
        for part in ast.iter_child_nodes(node):
            if not is_walked_at_once(part):
                continue
            fits = isinstance(node, (ast.For, ast.comprehension)) and part is node.iter
            fits = fits or isinstance(node, ast.Call) and part in node.args and walks(node, part)
            fits = fits or isinstance(node, ast.Compare) and isinstance(node.ops[0], (ast.In, ast.NotIn)) and part is not node.left
            if not fits:
                found.append(part.lineno)
    return found


def tables(tree):
    """The names of the lists and dicts at module level."""
    return [node.targets[0].id for node in tree.body if isinstance(node, ast.Assign) and isinstance(node.value, (ast.List, ast.Dict))]


def passed_on(tree, names):
    """The lines in which a list or dict of module level (L15) is not just looked into."""
    found = []
    for node in ast.walk(tree):
        for part in ast.iter_child_nodes(node):
            if not (isinstance(part, ast.Name) and part.id in names and isinstance(part.ctx, ast.Load)):
                continue
            fits = isinstance(node, (ast.Subscript, ast.Attribute)) and part is node.value
            fits = fits or isinstance(node, (ast.For, ast.comprehension)) and part is node.iter
            fits = fits or isinstance(node, ast.Compare) and part is not node.left
            fits = fits or isinstance(node, ast.Call) and called(node) in ("len", "list", "dict", "sorted")
            if not fits:
                found.append(part.lineno)
    return found


class LanguageTest(unittest.TestCase):
    def each(self):
        return [(path, parsed(path)) for path in FILES]

    def test_files(self):
        self.assertTrue(FILES)
        for path in FOLDER.rglob("*"):
            if "__pycache__" not in path.parts:
                self.assertRegex(path.name, r"^[a-z_0-9]+\.py$")
        self.assertEqual((FOLDER / "__init__.py").read_text(encoding="utf-8"), "")

    def test_size_and_characters(self):
        for path in FILES:
            text = path.read_text(encoding="utf-8")
            lines = text.split("\n")
            self.assertLessEqual(len(lines), 400, path)
            self.assertIsNone(re.search("[^ -~\n]", text), path)
            self.assertLessEqual(max(len(line) for line in lines), 120, path)

    def test_functions(self):
        for path, tree in self.each():
            for node in ast.walk(tree):
                if isinstance(node, ast.FunctionDef):
                    self.assertLessEqual(node.end_lineno - node.lineno + 1, 40, node.name)
                    for decorator in node.decorator_list:
                        self.assertEqual(ast.unparse(decorator), "property")
                if isinstance(node, ast.ClassDef):
                    self.assertEqual(node.decorator_list, [])

    def test_imports(self):
        wanted = {}
        for path, tree in self.each():
            found = []
            for node in ast.walk(tree):
                self.assertNotIsInstance(node, ast.Import)
                if isinstance(node, ast.ImportFrom):
                    self.assertIn(node, tree.body)
                    self.assertRegex(node.module, r"^byteshape\.[a-z]+$")
                    source = FOLDER / (node.module.split(".")[1] + ".py")
                    self.assertLessEqual({name.name for name in node.names}, self.defined(parsed(source)), node.module)
                    found.append(source.name)
            wanted[path.name] = found
        done = []
        while len(done) < len(wanted):
            ready = [name for name in wanted if name not in done and all(one in done for one in wanted[name])]
            self.assertTrue(ready, "files import each other")
            done.extend(ready)

    def defined(self, tree):
        """The names that a file defines itself at module level."""
        found = set()
        for node in tree.body:
            if isinstance(node, (ast.FunctionDef, ast.ClassDef)):
                found.add(node.name)
            if isinstance(node, ast.Assign):
                found.add(node.targets[0].id)
        return found

    def test_module_level(self):
        for path, tree in self.each():
            for node in tree.body:
                docstring = isinstance(node, ast.Expr) and node is tree.body[0]
                self.assertTrue(docstring or isinstance(node, (ast.ImportFrom, ast.FunctionDef, ast.ClassDef, ast.Assign)))
                if isinstance(node, ast.Assign):
                    self.assertEqual(len(node.targets), 1)
                    self.assertIsInstance(node.targets[0], ast.Name)
                    self.assertFalse([one for one in ast.walk(node.value) if isinstance(one, (ast.Call, ast.ListComp))])

    def test_names(self):
        for path, tree in self.each():
            for name in bound_names(tree):
                self.assertTrue(re.match(r"^_?[A-Za-z][A-Za-z0-9_]*$|^_$|^__init__$", name), name)
                self.assertNotIn(name, OF_PYTHON)
                self.assertNotIn(name, BARRED)

    def test_imports_and_classes_keep_their_names(self):
        for path, tree in self.each():
            own = {name.asname or name.name for node in tree.body if isinstance(node, ast.ImportFrom) for name in node.names}
            own |= {node.name for node in tree.body if isinstance(node, ast.ClassDef)}
            used = {node.id for node in ast.walk(tree) if isinstance(node, ast.Name) and isinstance(node.ctx, ast.Load)}
            for function in ast.walk(tree):
                if isinstance(function, ast.FunctionDef):
                    self.assertFalse(own & set(bound_names(function)) - {function.name}, (path, function.name))
            imported = {name.name for node in tree.body if isinstance(node, ast.ImportFrom) for name in node.names}
            self.assertLessEqual(imported, used, path)

    def test_methods_and_attributes(self):
        for path, tree in self.each():
            for node in ast.walk(tree):
                if isinstance(node, ast.ClassDef):
                    methods = [part.name for part in node.body if isinstance(part, ast.FunctionDef)]
                    self.assertEqual(len(methods), len(set(methods)), node.name)
                    stored = {part.attr for part in ast.walk(node) if isinstance(part, ast.Attribute) and isinstance(part.ctx, ast.Store)}
                    self.assertFalse(stored & set(methods), node.name)
                    self.assertFalse(stored & {"items", "keys", "values", "pop", "update", "append", "clear", "extend", "insert", "remove",
                                               "reverse", "setdefault", "sort", "args", "encode", "decode", "hex", "format"}, node.name)

    def test_nodes(self):
        for path, tree in self.each():
            for node in ast.walk(tree):
                if not isinstance(node, ALLOWED_NODES):
                    self.assertNotIsInstance(node, NODES)

    def test_builtins_and_methods(self):
        own = {name for path in FILES for name in bound_names(parsed(path))}
        for path, tree in self.each():
            for node in ast.walk(tree):
                if isinstance(node, ast.Name) and node.id in OF_PYTHON:
                    self.assertIn(node.id, USED_BUILTINS)
                if isinstance(node, ast.Call) and isinstance(node.func, ast.Attribute):
                    self.assertTrue(node.func.attr in METHODS or node.func.attr in own or node.func.attr == "__init__")

    def test_strings(self):
        for path, tree in self.each():
            for node in ast.walk(tree):
                if isinstance(node, ast.Constant) and isinstance(node.value, str):
                    self.assertNotIn("%", node.value)
                if isinstance(node, ast.Constant):
                    self.assertNotIsInstance(node.value, (float, complex, bytes))

    def test_is(self):
        for path, tree in self.each():
            for node in ast.walk(tree):
                if isinstance(node, ast.Compare) and isinstance(node.ops[0], (ast.Is, ast.IsNot)):
                    self.assertIsInstance(node.comparators[0], ast.Constant)

    def test_tables_at_module_level(self):
        names = [name for _, tree in self.each() for name in tables(tree)]
        self.assertTrue(names)
        for path, tree in self.each():
            self.assertEqual(passed_on(tree, names), [], path)
        for text in ("take(WORDS)", "return_value = WORDS", "{**WORDS}", "found.extend(WORDS)", "f(*WORDS)", "[WORDS]"):
            self.assertEqual(passed_on(ast.parse(text), ["WORDS"]), [1], text)
        for text in ("WORDS[k]", "WORDS.get(k)", "k in WORDS", "len(WORDS)", "dict(WORDS)", "[k for k in WORDS]"):
            self.assertEqual(passed_on(ast.parse(text), ["WORDS"]), [], text)

    def test_methods_and_attributes_of_other_classes(self):
        # A name that is a method here and an attribute there (L18) is read off objects only, and has no decorator.
        classes = [node for _, tree in self.each() for node in ast.walk(tree) if isinstance(node, ast.ClassDef)]
        methods = [part for node in classes for part in node.body if isinstance(part, ast.FunctionDef)]
        names = {node.name for node in classes}
        stored_names = {part.attr for node in classes for part in ast.walk(node) if isinstance(part, ast.Attribute) and isinstance(part.ctx, ast.Store)}
        for method in methods:
            if method.name in stored_names:
                self.assertEqual(method.decorator_list, [], method.name)
        for _, tree in self.each():
            for node in ast.walk(tree):
                if isinstance(node, ast.Attribute) and isinstance(node.value, ast.Name):
                    self.assertNotIn(node.value.id, names)

    def test_walked_at_once(self):
        for path, tree in self.each():
            self.assertEqual(stored(tree), [], path)

    def test_what_is_walked_at_once(self):
        for text in ("found.extend(range(5))", "found.extend(a.items())", "x.update(zip(a, b))", "take(d.values())", "set(d.keys())",
                     "list(zip(a, range(5)))", "k = range(5)", "list(reversed(zip(a, b)))", "len(zip(a, b))", "max(0, range(5))",
                     "take(*range(5))", "take(x=enumerate(a))", "word.join(d.keys())", "max(d.values(), key=len)", "range(3) == a"):
            self.assertEqual(stored(ast.parse(text)), [1], text)
        for text in ("found.extend(list(range(5)))", "for k in range(5): pass", "[k for k, v in d.items()]", "dict(zip(a, b))",
                     "len(d.items())", "for k in reversed(range(5)): pass", "max(d.values(), default=0)", "''.join(d.keys())",
                     "k in d.keys()", "list(enumerate(zip(a, b)))", "sorted(reversed(a))"):
            self.assertEqual(stored(ast.parse(text)), [], text)

    def test_handlers(self):
        for path, tree in self.each():
            own = self.defined(parsed(FOLDER / "errors.py"))
            for node in ast.walk(tree):
                if isinstance(node, ast.ExceptHandler):
                    self.assertIn(node.type.id, own)
                if isinstance(node, ast.Raise):
                    self.assertIn(node.exc.func.id, own)


if __name__ == "__main__":
    unittest.main()

"""The form of the package's files: the plain rules of the language that it keeps to."""

import ast
import builtins
import os
import unittest
import warnings

FOLDER = os.path.join(os.path.dirname(os.path.dirname(os.path.abspath(__file__))), "pairsfree")

LIBRARY = {"math": {"gcd", "lcm", "isqrt", "comb", "perm", "factorial"},
           "itertools": {"product", "combinations", "permutations"}}
BUILTINS = set("len range enumerate zip min max sum abs sorted reversed int str bool list tuple dict set isinstance ord"
               " repr any all divmod property classmethod staticmethod ValueError LookupError RuntimeError"
               " ArithmeticError TypeError KeyError IndexError".split())
METHODS = set("append clear copy count endswith extend find get index insert isalnum isalpha isdigit islower isspace"
              " isupper items join keys ljust lower lstrip partition pop remove replace reverse rfind rjust rpartition"
              " rsplit rstrip setdefault split splitlines startswith strip update upper values zfill"
              " bit_length".split())
# A shell, also one of doctest, keeps its last value as the builtin `_`; a loop may assign it.
NAMES_TAKEN = set(dir(builtins)) - {"_"}
DECORATORS = {"property", "classmethod", "staticmethod"}
NODES_BARRED = (ast.GeneratorExp, ast.Global, ast.AsyncFunctionDef, ast.Await, ast.Div, ast.MatMult, ast.Yield,
                ast.Import, ast.SetComp, ast.Set)
WORDS_BARRED = set("type typing enum open input register mro elements law eval exec globals locals vars".split())


def files():
    return sorted(name for name in os.listdir(FOLDER) if name != "__pycache__")


def text_of(name):
    with open(os.path.join(FOLDER, name), encoding="utf-8") as file:
        return file.read()


def tree_of(name):
    return ast.parse(text_of(name))


def functions_of(tree):
    return [node for node in ast.walk(tree) if isinstance(node, ast.FunctionDef)]


def defined(tree):
    """The names bound at the level of the module, each as often as it is bound."""
    names = []
    for node in tree.body:
        if isinstance(node, ast.ImportFrom):
            names.extend(alias.name for alias in node.names)
        elif isinstance(node, (ast.FunctionDef, ast.ClassDef)):
            names.append(node.name)
        elif isinstance(node, ast.Assign):
            names.extend(target.id for target in node.targets)
    return names


def is_plain(node, own):
    """Whether a value at the level of the module is plain: constants, own functions, tuples; dicts of these outside."""
    if isinstance(node, ast.Dict):
        return all(isinstance(key, ast.Constant) for key in node.keys) and all(
            is_plain(value, own) and not isinstance(value, ast.Dict) for value in node.values)
    if isinstance(node, ast.Tuple):
        return all(is_plain(part, own) and not isinstance(part, ast.Dict) for part in node.elts)
    return isinstance(node, ast.Constant) or (isinstance(node, ast.Name) and node.id in own)


def local_names(tree):
    """The parameters and local variables of all functions."""
    found = {node.arg for node in ast.walk(tree) if isinstance(node, ast.arg)}
    for function in functions_of(tree):
        found |= {node.id for node in ast.walk(function)
                  if isinstance(node, ast.Name) and isinstance(node.ctx, ast.Store)}
    return found


class FormTest(unittest.TestCase):

    def each(self, check):
        """The check of each file's name and tree, told apart by files."""
        for name in files():
            with self.subTest(file=name):
                check(name, tree_of(name))

    def test_files(self):
        self.assertIn("__init__.py", files())
        for name in files():
            self.assertRegex(name, r"\A[a-z_][a-z0-9_]*\.py\Z")
            self.assertFalse(name.startswith("test"), name)

    def test_sizes_and_characters(self):
        def check(name, tree):
            lines = text_of(name).split("\n")
            self.assertLessEqual(len(lines), 399)
            self.assertEqual([line for line in lines if len(line) > 120], [])
            self.assertEqual([line for line in lines if not all(" " <= sign <= "~" for sign in line)], [])
            for function in functions_of(tree):
                self.assertLessEqual(function.end_lineno - function.lineno, 39, function.name)
        self.each(check)

    def test_no_warnings(self):
        for name in files():
            with warnings.catch_warnings():
                warnings.simplefilter("error")
                compile(text_of(name), name, "exec")

    def test_module_level(self):
        def check(name, tree):
            own = []
            for node in tree.body:
                docstring = isinstance(node, ast.Expr) and isinstance(node.value, ast.Constant)
                plain = isinstance(node, ast.Assign) and len(node.targets) == 1 and is_plain(node.value, own)
                kinds = (ast.ImportFrom, ast.FunctionDef, ast.ClassDef)
                self.assertTrue(docstring or plain or isinstance(node, kinds), ast.unparse(node))
                if isinstance(node, ast.FunctionDef):
                    own.append(node.name)
        self.each(check)

    def test_tables_are_only_read(self):
        def check(name, tree):
            tables = {node.targets[0].id for node in tree.body
                      if isinstance(node, ast.Assign) and isinstance(node.value, ast.Dict)}
            read = {node.id for part in ast.walk(tree) for node in ast.iter_child_nodes(part)
                    if isinstance(node, ast.Name) and isinstance(node.ctx, ast.Load)
                    and not (isinstance(part, ast.Subscript) and isinstance(part.ctx, ast.Load))
                    and not (isinstance(part, ast.Compare) and isinstance(part.ops[0], (ast.In, ast.NotIn)))}
            self.assertEqual(tables & read, set())
            called = [node for node in ast.walk(tree) if isinstance(node, ast.Call)
                      and isinstance(node.func, (ast.Subscript, ast.Call))]
            self.assertEqual(called, [])
        self.each(check)

    def test_handlers_and_blocks(self):
        def check(name, tree):
            for node in ast.walk(tree):
                if isinstance(node, ast.Try):
                    caught = ", ".join(ast.unparse(handler.type).strip("()") for handler in node.handlers).split(", ")
                    self.assertEqual((set(caught) & NAMES_TAKEN, node.finalbody), (set(), []))
                if isinstance(node, ast.With):
                    self.assertEqual([ast.unparse(part.context_expr) for part in node.items], ["Trial(desk)"])
                if isinstance(node, ast.FunctionDef) and node.name == "__exit__":
                    self.assertEqual([ast.unparse(part) for part in node.body],
                                     ["desk = self._desk", "desk._page = self._kept"])
        self.each(check)

    def test_imports(self):
        def check(name, tree):
            for node in tree.body:
                if isinstance(node, ast.ImportFrom):
                    self.assertEqual(node.level, 0)
                    names = {alias.name for alias in node.names}
                    self.assertEqual([alias.asname for alias in node.names], [None] * len(node.names))
                    if node.module in LIBRARY:
                        self.assertLessEqual(names, LIBRARY[node.module])
                    else:
                        package, file = node.module.split(".")
                        self.assertEqual(package, "pairsfree")
                        own = [part.name if hasattr(part, "name") else part.targets[0].id
                               for part in tree_of(file + ".py").body
                               if isinstance(part, (ast.FunctionDef, ast.ClassDef, ast.Assign))]
                        self.assertLessEqual(names, set(own))
        self.each(check)

    def test_every_import_is_used(self):
        def check(name, tree):
            imported = {alias.name for node in tree.body if isinstance(node, ast.ImportFrom) for alias in node.names}
            read = {node.id for node in ast.walk(tree) if isinstance(node, ast.Name)}
            self.assertLessEqual(imported, read)
        self.each(check)

    def test_no_circles(self):
        asked = {name[:-3]: [node.module.split(".")[1] for node in tree_of(name).body
                             if isinstance(node, ast.ImportFrom) and node.module.startswith("pairsfree.")]
                 for name in files()}
        while asked:
            free = [name for name, others in asked.items() if not [other for other in others if other in asked]]
            self.assertTrue(free, asked)
            asked = {name: others for name, others in asked.items() if name not in free}

    def test_one_binding_for_each_name(self):
        def check(name, tree):
            names = defined(tree)
            self.assertEqual(len(names), len(set(names)))
            taken = {node.name for node in tree.body if isinstance(node, ast.ClassDef)} | {
                alias.name for node in tree.body if isinstance(node, ast.ImportFrom) for alias in node.names}
            self.assertEqual(local_names(tree) & taken, set())
            self.assertEqual((local_names(tree) | set(names)) & NAMES_TAKEN, set())
        self.each(check)

    def test_only_allowed_parts(self):
        def check(name, tree):
            for node in ast.walk(tree):
                self.assertNotIsInstance(node, NODES_BARRED, getattr(node, "lineno", None))
                if isinstance(node, ast.Constant):
                    self.assertNotIsInstance(node.value, (float, complex))
                    if isinstance(node.value, str):
                        self.assertNotIn("%", node.value)
                if isinstance(node, (ast.FunctionDef, ast.ClassDef)):
                    self.assertLessEqual({ast.unparse(part) for part in node.decorator_list}, DECORATORS)
        self.each(check)

    def test_builtins_and_methods(self):
        own = {node.name for name in files() for node in functions_of(tree_of(name))}
        def check(name, tree):
            read = {node.id for node in ast.walk(tree) if isinstance(node, ast.Name)}
            self.assertLessEqual(read & NAMES_TAKEN, BUILTINS)
            called = {node.func.attr for node in ast.walk(tree)
                      if isinstance(node, ast.Call) and isinstance(node.func, ast.Attribute)}
            self.assertLessEqual(called, METHODS | own)
            names = read | local_names(tree) | set(defined(tree)) | {
                node.attr for node in ast.walk(tree) if isinstance(node, ast.Attribute)}
            self.assertEqual(names & WORDS_BARRED, set())
        self.each(check)

    def test_every_part_tells_what_it_is(self):
        def check(name, tree):
            self.assertTrue(ast.get_docstring(tree))
            for node in ast.walk(tree):
                told = isinstance(node, (ast.FunctionDef, ast.ClassDef)) and not node.name.startswith("__")
                self.assertTrue(not told or ast.get_docstring(node), getattr(node, "name", None))
        self.each(check)


if __name__ == "__main__":
    unittest.main()

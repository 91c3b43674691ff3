"""Some of the rules for the language of the package that can be checked here (L1 to L28)."""

import ast
import os
import re
import unittest

PACKAGE = os.path.join(os.path.dirname(os.path.dirname(os.path.abspath(__file__))), "kithwhole")

BUILTINS = {
    "len", "range", "enumerate", "zip", "min", "max", "sum", "abs", "sorted", "reversed", "int", "str", "bool", "list",
    "tuple", "dict", "set", "isinstance", "ord", "repr", "any", "all", "divmod", "super",
}
METHODS = {
    "append", "clear", "copy", "count", "endswith", "extend", "find", "get", "index", "insert", "isalnum", "isalpha",
    "isdigit", "islower", "isspace", "isupper", "items", "join", "keys", "ljust", "lower", "lstrip", "partition",
    "pop", "remove", "replace", "reverse", "rfind", "rjust", "rpartition", "rsplit", "rstrip", "setdefault", "split",
    "splitlines", "startswith", "strip", "update", "upper", "values", "zfill", "bit_length", "__init__",
}
WORDS = {
    "type", "typing", "enum", "Enum", "Flag", "Generic", "Protocol", "ABC", "namedtuple", "dataclass", "overload",
    "contextmanager", "mro", "elements", "open", "input", "law", "register", "eval", "exec", "globals", "locals",
    "vars", "dir", "id", "hash", "map", "filter", "next", "iter", "format", "object", "chr", "print",
}
FORBIDDEN = (
    ast.AsyncFunctionDef, ast.Await, ast.Global, ast.Yield, ast.YieldFrom, ast.GeneratorExp, ast.SetComp, ast.Set,
    ast.NamedExpr, ast.Div, ast.Starred, ast.With, ast.Nonlocal, ast.Import,
)


def files():
    return sorted(name for name in os.listdir(PACKAGE) if name != "__pycache__")


def read(name):
    with open(os.path.join(PACKAGE, name), encoding="utf-8") as file:
        return file.read()


class Files(unittest.TestCase):
    def test_only_plain_files(self):
        self.assertIn("__init__.py", files())
        for name in files():
            self.assertRegex(name, r"^[a-z_0-9]+\.py$")

    def test_sizes_and_characters(self):
        for name in files():
            lines = read(name).split("\n")
            self.assertLessEqual(len(lines), 399, name)
            self.assertLessEqual(max(len(line) for line in lines), 120, name)
            self.assertIsNone(re.search(r"[^ -~\n]", read(name)), name)

    def test_every_file_tells_what_it_is_for(self):
        for name in files():
            self.assertTrue(ast.get_docstring(ast.parse(read(name))), name)


class Trees(unittest.TestCase):
    def trees(self):
        return [(name, ast.parse(read(name))) for name in files()]

    def functions(self, tree):
        return [node for node in ast.walk(tree) if isinstance(node, ast.FunctionDef)]

    def test_module_level(self):
        for name, tree in self.trees():
            for node in tree.body[1:]:
                allowed = (ast.ImportFrom, ast.FunctionDef, ast.ClassDef, ast.Assign)
                self.assertIsInstance(node, allowed, (name, node.lineno))
                if isinstance(node, ast.ImportFrom):
                    self.assertTrue(node.module.startswith("kithwhole."), name)
                    self.assertEqual((node.level, [each.asname for each in node.names if each.asname]), (0, []))

    def test_names_at_module_level_are_bound_once_and_plainly(self):
        for name, tree in self.trees():
            bound = [each.name for node in tree.body if isinstance(node, ast.ImportFrom) for each in node.names]
            bound += [node.name for node in tree.body if isinstance(node, (ast.FunctionDef, ast.ClassDef))]
            for node in [node for node in tree.body if isinstance(node, ast.Assign)]:
                self.assertEqual([type(target) for target in node.targets], [ast.Name], (name, node.lineno))
                bound.append(node.targets[0].id)
                for each in ast.walk(node.value):
                    self.assertNotIsInstance(each, (ast.Call, ast.Lambda, ast.comprehension), (name, node.lineno))
            self.assertEqual(sorted(bound), sorted(set(bound)), name)

    def test_no_name_is_a_method_and_an_attribute_of_one_class(self):
        for name, tree in self.trees():
            for node in [node for node in tree.body if isinstance(node, ast.ClassDef)]:
                methods = [each.name for each in node.body if isinstance(each, ast.FunctionDef)]
                self.assertEqual(len(methods), len(set(methods)), (name, node.name))
                stored = {each.attr for each in ast.walk(node)
                          if isinstance(each, ast.Attribute) and isinstance(each.ctx, ast.Store)}
                self.assertEqual(stored & set(methods), set(), (name, node.name))

    def test_imports_name_the_file_that_defines_the_name(self):
        for name, tree in self.trees():
            for node in [node for node in tree.body if isinstance(node, ast.ImportFrom)]:
                source = ast.parse(read(node.module.split(".")[1] + ".py"))
                defined = {each.name for each in source.body if isinstance(each, (ast.FunctionDef, ast.ClassDef))}
                defined |= {each.targets[0].id for each in source.body if isinstance(each, ast.Assign)}
                for each in node.names:
                    self.assertIn(each.name, defined, name)
                    self.assertFalse(each.name.startswith("_"), name)

    def test_no_circles_of_imports(self):
        reached = {}
        imports = {name[:-3]: [node.module.split(".")[1] for node in tree.body if isinstance(node, ast.ImportFrom)]
                   for name, tree in self.trees()}
        while len(reached) < len(imports):
            ready = [name for name in imports if name not in reached and all(each in reached for each in imports[name])]
            self.assertTrue(ready, set(imports) - set(reached))
            for name in ready:
                reached[name] = True

    def test_functions_are_small_and_plain(self):
        for name, tree in self.trees():
            for node in self.functions(tree):
                self.assertLessEqual(node.end_lineno - node.lineno + 1, 40, (name, node.name))
                self.assertEqual(node.decorator_list, [])

    def test_no_forbidden_things(self):
        for name, tree in self.trees():
            for node in ast.walk(tree):
                self.assertNotIsInstance(node, FORBIDDEN, (name, getattr(node, "lineno", 0)))
                if isinstance(node, ast.Compare):
                    for operator, right in zip(node.ops, node.comparators):
                        if isinstance(operator, (ast.Is, ast.IsNot)):
                            self.assertIsInstance(right, ast.Constant, (name, node.lineno))
                if isinstance(node, ast.Constant) and isinstance(node.value, str):
                    self.assertNotIn("%", node.value)

    def test_one_lambda_on_a_line(self):
        for name, tree in self.trees():
            lines = [node.lineno for node in ast.walk(tree) if isinstance(node, ast.Lambda)]
            self.assertEqual(len(lines), len(set(lines)), name)

    def test_inner_functions_assign_no_name_of_an_outer_one(self):
        def assigned(function):
            found = {each.arg for each in function.args.args}
            inner = [node for node in ast.walk(function) if node is not function and isinstance(node, ast.FunctionDef)]
            skipped = {id(each) for node in inner for each in ast.walk(node)}
            names = [node for node in ast.walk(function) if isinstance(node, ast.Name) and isinstance(node.ctx, ast.Store)]
            return found | {node.id for node in names if id(node) not in skipped}, inner

        for name, tree in self.trees():
            for function in self.functions(tree):
                own, inner = assigned(function)
                for each in inner:
                    self.assertEqual(own & assigned(each)[0], set(), (name, each.name))

    def test_names(self):
        for name, tree in self.trees():
            for node in ast.walk(tree):
                told = [getattr(node, word, None) for word in ("id", "arg", "attr")]
                told += [node.name] if isinstance(node, (ast.FunctionDef, ast.ClassDef)) else []
                for each in told:
                    self.assertNotIn(each, WORDS, (name, getattr(node, "lineno", 0)))
                    if each and each.startswith("__"):
                        self.assertEqual(each, "__init__")

    def test_no_local_name_hides_an_import_a_class_or_a_builtin(self):
        for name, tree in self.trees():
            fixed = {each.name for node in tree.body if isinstance(node, ast.ImportFrom) for each in node.names}
            fixed |= {node.name for node in tree.body if isinstance(node, ast.ClassDef)}
            fixed |= BUILTINS
            for node in ast.walk(tree):
                if isinstance(node, ast.Name) and isinstance(node.ctx, ast.Store):
                    self.assertNotIn(node.id, fixed, (name, node.lineno))
                if isinstance(node, ast.arg):
                    self.assertNotIn(node.arg, fixed, (name, node.lineno))

    def test_only_known_builtins_and_methods_are_called(self):
        own, methods = set(), set(METHODS)
        for _, tree in self.trees():
            for node in ast.walk(tree):
                if isinstance(node, (ast.FunctionDef, ast.ClassDef)):
                    own.add(node.name)
                    methods.add(node.name)
        for name, tree in self.trees():
            # Functions may be values of variables and parameters.
            held = {node.arg for node in ast.walk(tree) if isinstance(node, ast.arg)}
            held |= {node.id for node in ast.walk(tree) if isinstance(node, ast.Name) and isinstance(node.ctx, ast.Store)}
            for node in ast.walk(tree):
                if isinstance(node, ast.Call) and isinstance(node.func, ast.Name):
                    self.assertIn(node.func.id, own | held | BUILTINS | {"ValueError"}, (name, node.lineno))
                if isinstance(node, ast.Call) and isinstance(node.func, ast.Attribute):
                    self.assertIn(node.func.attr, methods, (name, node.lineno))


if __name__ == "__main__":
    unittest.main()

"""The rules of ../shared/LANGUAGE.md that can be seen from the files alone."""

import ast
import builtins
import os
import unittest

FOLDER = os.path.join(os.path.dirname(os.path.dirname(os.path.abspath(__file__))), "heardseams")
BUILTINS = (
    "len", "range", "enumerate", "zip", "min", "max", "sum", "abs", "sorted", "reversed", "int", "str", "bool",
    "list", "tuple", "dict", "set", "isinstance", "ord", "repr", "any", "all", "divmod", "Exception", "ValueError",
    "TypeError", "KeyError", "map", "iter", "next", "super", "property", "staticmethod", "classmethod",
)
METHODS = (
    "append", "clear", "copy", "count", "endswith", "extend", "find", "get", "index", "insert", "isdigit", "items",
    "join", "keys", "lower", "partition", "pop", "remove", "replace", "reverse", "setdefault", "split", "startswith",
    "strip", "update", "values",
)
LIBRARY = {
    "heapq": ("heappush", "heappop", "heapify", "heapreplace", "heappushpop"),
    "math": ("gcd", "lcm", "isqrt", "comb", "perm", "factorial"),
    "itertools": ("product", "combinations", "permutations"),
}


def files():
    return sorted(name for name in os.listdir(FOLDER) if name != "__pycache__")


def text_of(name):
    with open(os.path.join(FOLDER, name), encoding="utf-8") as held:
        return held.read()


def trees():
    return [(name, ast.parse(text_of(name))) for name in files()]


def bound_names(tree):
    """All names that a file gives a meaning to, but attributes and methods."""
    for node in ast.walk(tree):
        if isinstance(node, (ast.FunctionDef, ast.ClassDef)):
            yield node.name
        elif isinstance(node, ast.arg):
            yield node.arg
        elif isinstance(node, ast.Name) and not isinstance(node.ctx, ast.Load):
            yield node.id


def imports(tree):
    for node in ast.walk(tree):
        if isinstance(node, ast.ImportFrom):
            yield node


class Form(unittest.TestCase):
    def test_the_folder_holds_files_with_plain_names_alone(self):
        for name in files():
            self.assertRegex(name, r"\A[a-z_][a-z0-9_]*\.py\Z")
            self.assertFalse(name.startswith("test"), name)

    def test_characters_and_sizes(self):
        for name in files():
            text = text_of(name)
            self.assertTrue(all(sign == "\n" or " " <= sign <= "~" for sign in text), name)
            self.assertLess(len(text.splitlines()), 400, name)
            for line in text.splitlines():
                self.assertLessEqual(len(line), 120, (name, line))

    def test_functions_are_of_forty_lines_at_most(self):
        for name, tree in trees():
            for node in ast.walk(tree):
                if isinstance(node, ast.FunctionDef):
                    self.assertLessEqual(node.end_lineno - node.lineno + 1, 40, (name, node.name))

    def test_imports_are_of_the_package_or_of_what_the_rules_name(self):
        for name, tree in trees():
            self.assertFalse([node for node in ast.walk(tree) if isinstance(node, ast.Import)], name)
            for node in imports(tree):
                self.assertEqual(node.level, 0)
                for item in node.names:
                    self.assertIsNone(item.asname)
                    if node.module in LIBRARY:
                        self.assertIn(item.name, LIBRARY[node.module])
                    else:
                        package, module = node.module.split(".")
                        self.assertEqual(package, "heardseams")
                        self.assertIn(module + ".py", files())

    def test_what_is_imported_is_defined_in_the_very_file_and_used(self):
        defined = {name[:-3]: set(bound_names(tree)) for name, tree in trees()}
        for name, tree in trees():
            used = {node.id for node in ast.walk(tree) if isinstance(node, ast.Name)}
            for node in imports(tree):
                for item in node.names:
                    self.assertIn(item.name, used, name)
                    if node.module not in LIBRARY:
                        self.assertIn(item.name, defined[node.module.split(".")[1]])

    def test_no_two_files_import_from_each_other(self):
        needs = {
            name[:-3]: {node.module.split(".")[1] for node in imports(tree) if node.module not in LIBRARY}
            for name, tree in trees()
        }
        while needs:
            free = [name for name in needs if not needs[name]]
            self.assertTrue(free, needs)
            needs = {name: rest - set(free) for name, rest in needs.items() if name not in free}

    def test_only_some_builtins_are_used_and_none_is_given_another_meaning(self):
        everything = set(dir(builtins))
        for name, tree in trees():
            for bound in bound_names(tree):
                self.assertNotIn(bound, everything, name)
            for node in ast.walk(tree):
                if isinstance(node, ast.Name) and node.id in everything:
                    self.assertIn(node.id, BUILTINS, name)

    def test_no_name_of_an_import_or_a_class_is_bound_again(self):
        for name, tree in trees():
            taken = [item.name for node in imports(tree) for item in node.names]
            taken += [node.name for node in ast.walk(tree) if isinstance(node, ast.ClassDef)]
            bound = list(bound_names(tree))
            for word in taken:
                self.assertLessEqual(bound.count(word), 1 if word in defined_classes(tree) else 0, (name, word))

    def test_no_statement_that_is_barred(self):
        barred = (
            ast.Global, ast.AsyncFunctionDef, ast.Await, ast.AsyncFor, ast.AsyncWith, ast.Div, ast.Set, ast.MatMult,
            ast.GeneratorExp,
        )
        for name, tree in trees():
            for node in ast.walk(tree):
                self.assertNotIsInstance(node, barred, name)
                if isinstance(node, ast.Constant):
                    self.assertNotIsInstance(node.value, (float, complex), name)
                    self.assertFalse(isinstance(node.value, str) and "%" in node.value, name)

    def test_powers_have_plain_exponents(self):
        for name, tree in trees():
            for node in ast.walk(tree):
                if isinstance(node, ast.BinOp) and isinstance(node.op, ast.Pow):
                    self.assertIsInstance(node.right, ast.Constant, (name, node.lineno))

    def test_methods_of_builtin_values_are_those_of_the_rules(self):
        own = {
            node.name for _, tree in trees() for kind in ast.walk(tree) if isinstance(kind, ast.ClassDef)
            for node in kind.body if isinstance(node, ast.FunctionDef)
        }
        for name, tree in trees():
            for node in ast.walk(tree):
                if isinstance(node, ast.Call) and isinstance(node.func, ast.Attribute):
                    self.assertIn(node.func.attr, own | set(METHODS) | {"add", "discard"}, (name, node.lineno))

    def test_no_sort_where_a_class_compares(self):
        for name, tree in trees():
            self.assertNotIn(".sort(", text_of(name), name)


def defined_classes(tree):
    return [node.name for node in ast.walk(tree) if isinstance(node, ast.ClassDef)]


if __name__ == "__main__":
    unittest.main()

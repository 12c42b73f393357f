"""Tests of the form of the package: what a program can see of the rules of LANGUAGE.md."""

import ast
import os
import re
import unittest

FOLDER = os.path.join(os.path.dirname(os.path.dirname(os.path.abspath(__file__))), "rightrows")
LIBRARY = ("heapq", "math", "itertools", "collections")
BUILTINS = ("len range enumerate zip min max sum abs sorted reversed int str bool bytes list tuple dict set frozenset "
            "isinstance ord repr any all divmod pow getattr hasattr setattr iter next map super Exception ValueError "
            "TypeError KeyError IndexError LookupError ZeroDivisionError ArithmeticError OverflowError RuntimeError "
            "NotImplementedError AttributeError StopIteration NotImplemented").split()
STATEMENTS = (ast.ImportFrom, ast.FunctionDef, ast.ClassDef, ast.Assign, ast.AnnAssign, ast.Expr)


def file_names():
    return sorted(name for name in os.listdir(FOLDER) if name != "__pycache__")


def text_of(name):
    with open(os.path.join(FOLDER, name), encoding="utf-8") as file:
        return file.read()


def trees():
    """The pairs of the name and the syntax tree of each file."""
    return [(name, ast.parse(text_of(name))) for name in file_names()]


def nodes(kinds):
    """The pairs of the place and the node for each node of these kinds in all files."""
    return [(f"{name}:{node.lineno}", node)
            for name, tree in trees() for node in ast.walk(tree) if isinstance(node, kinds)]


def bound_names(tree):
    """Every name that a file binds anywhere."""
    names = []
    for node in ast.walk(tree):
        if isinstance(node, (ast.FunctionDef, ast.ClassDef)):
            names.append(node.name)
        elif isinstance(node, ast.Name) and not isinstance(node.ctx, ast.Load):
            names.append(node.id)
        elif isinstance(node, ast.arg):
            names.append(node.arg)
        elif isinstance(node, ast.alias):
            names.append(node.asname or node.name)
        elif isinstance(node, (ast.MatchAs, ast.MatchStar, ast.ExceptHandler)) and node.name:
            names.append(node.name)
    return names


class LanguageTest(unittest.TestCase):

    def test_files(self):
        self.assertIn("__init__.py", file_names())
        for name in file_names():
            self.assertTrue(re.fullmatch(r"[a-z0-9_]+\.py", name), name)

    def test_sizes_and_characters(self):
        for name in file_names():
            lines = text_of(name).split("\n")
            self.assertLessEqual(len(lines), 399, name)
            for number, line in enumerate(lines, start=1):
                self.assertLessEqual(len(line), 120, f"{name}:{number}")
                self.assertTrue(re.fullmatch("[ -~]*", line), f"{name}:{number}")

    def test_lengths_of_functions(self):
        for place, node in nodes(ast.FunctionDef):
            self.assertLessEqual(node.end_lineno - node.lineno + 1, 40, place)

    def test_imports(self):
        self.assertEqual(nodes(ast.Import), [])
        for place, node in nodes(ast.ImportFrom):
            self.assertEqual(node.level, 0, place)
            self.assertIn(node.module.split(".")[0], ("rightrows",) + LIBRARY, place)

    def test_module_level(self):
        for name, tree in trees():
            for node in tree.body:
                self.assertIsInstance(node, STATEMENTS, f"{name}:{node.lineno}")
                if isinstance(node, ast.Expr):
                    self.assertIs(node, tree.body[0], f"{name}:{node.lineno}")

    def test_no_name_but_own_ones_and_the_listed_builtins(self):
        for name, tree in trees():
            own = bound_names(tree)
            self.assertEqual([word for word in own if word in BUILTINS], [], name)
            used = [node.id for node in ast.walk(tree) if isinstance(node, ast.Name)]
            self.assertEqual([word for word in used if word not in own + BUILTINS], [], name)

    def test_no_variable_has_the_name_of_an_import_or_a_class(self):
        for name, tree in trees():
            taken = [alias.name for node in tree.body if isinstance(node, ast.ImportFrom) for alias in node.names]
            taken.extend(node.name for node in tree.body if isinstance(node, ast.ClassDef))
            self.assertEqual(len(taken), len(set(taken)), name)
            used = [node.arg for node in ast.walk(tree) if isinstance(node, ast.arg)]
            used.extend(node.id for node in ast.walk(tree)
                        if isinstance(node, ast.Name) and not isinstance(node.ctx, ast.Load))
            self.assertEqual([word for word in used if word in taken], [], name)

    def test_no_name_is_a_method_and_an_attribute(self):
        methods = {item.name for _, node in nodes(ast.ClassDef) for item in node.body[1:]}
        attributes = {node.attr for _, node in nodes(ast.Attribute) if not isinstance(node.ctx, ast.Load)}
        self.assertEqual(methods & attributes, set())

    def test_bodies_of_classes(self):
        for place, node in nodes(ast.ClassDef):
            self.assertEqual(node.decorator_list, [], place)
            for item in node.body[1:]:
                self.assertIsInstance(item, ast.FunctionDef, place)

    def test_no_decorators_annotations_and_defaults(self):
        for place, node in nodes(ast.FunctionDef):
            self.assertEqual((node.decorator_list, node.returns), ([], None), place)
            self.assertEqual(node.args.defaults + node.args.kw_defaults, [], place)
            self.assertEqual([one.annotation for one in node.args.args if one.annotation is not None], [], place)
        self.assertEqual(nodes(ast.AnnAssign), [])

    def test_values_at_module_level(self):
        for name, tree in trees():
            for node in tree.body:
                if isinstance(node, ast.Assign):
                    self.assertEqual(len(node.targets), 1, name)
                    ast.literal_eval(node.value)

    def test_is_stands_beside_none_true_and_false_only(self):
        for place, node in nodes(ast.Compare):
            for sign, right in zip(node.ops, node.comparators):
                if isinstance(sign, (ast.Is, ast.IsNot)):
                    self.assertIsInstance(right, ast.Constant, place)
                    self.assertIn(right.value, (None, True, False), place)

    def test_everything_has_a_docstring(self):
        for place, node in nodes((ast.ClassDef, ast.FunctionDef)):
            self.assertTrue(ast.get_docstring(node) or node.name == "__init__", place)

    def test_statements_and_operators_that_are_not_used(self):
        kinds = (ast.Global, ast.AsyncFunctionDef, ast.AsyncFor, ast.AsyncWith, ast.Await)
        self.assertEqual(nodes(kinds), [])
        for place, node in nodes((ast.BinOp, ast.AugAssign)):
            self.assertNotIsInstance(node.op, ast.Div, place)

    def test_no_float(self):
        for place, node in nodes(ast.Constant):
            self.assertNotIsInstance(node.value, (float, complex), place)


if __name__ == "__main__":
    unittest.main()

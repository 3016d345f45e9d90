"""Those rules of the language subset for classes, operators and generators that can be seen in the files."""

import ast
import unittest
from pathlib import Path

FOLDER = Path(__file__).resolve().parent.parent / "rungladders"
OPERATORS = set("""
    __lt__ __le__ __gt__ __ge__ __ne__ __add__ __sub__ __mul__ __floordiv__ __mod__ __and__ __or__ __xor__ __neg__ __pos__
    __invert__ __abs__ __bool__ __contains__ __getitem__
""".split())
CHANGING = set("clear extend insert pop remove reverse setdefault update sort add discard".split())
TAKING_LISTS = {"sum", "min", "max", "sorted", "any", "all"}


def is_property(node):
    return any(isinstance(mark, ast.Name) and mark.id == "property" for mark in node.decorator_list)


def is_static(node):
    return any(isinstance(mark, ast.Name) and mark.id == "staticmethod" for mark in node.decorator_list)


def called_names(function):
    for node in ast.walk(function):
        if isinstance(node, ast.Call) and isinstance(node.func, ast.Name):
            yield node.func.id


class ClassesTest(unittest.TestCase):
    def setUp(self):
        trees = [ast.parse(path.read_text(encoding="utf-8")) for path in sorted(FOLDER.glob("*.py"))]
        self.nodes = [node for tree in trees for node in ast.walk(tree)]
        self.functions = {part.name: part for tree in trees for part in tree.body if isinstance(part, ast.FunctionDef)}
        self.classes = [node for node in self.nodes if isinstance(node, ast.ClassDef)]
        self.methods = [part for kind in self.classes for part in kind.body if isinstance(part, ast.FunctionDef)]

    def attributes_assigned(self):
        return {node.attr for node in self.nodes if isinstance(node, ast.Attribute) and isinstance(node.ctx, ast.Store)}

    def test_no_name_is_both_a_member_and_an_attribute(self):
        self.assertEqual({method.name for method in self.methods} & self.attributes_assigned(), set())

    def test_attributes_that_are_read_are_assigned(self):
        members = {method.name for method in self.methods} | self.attributes_assigned()
        methods = {"append", "join", "split", "bit_length", "get", "partition"}
        for node in self.nodes:
            if isinstance(node, ast.Attribute) and isinstance(node.ctx, ast.Load):
                self.assertIn(node.attr, members | methods)

    def test_properties_have_names_of_their_own(self):
        properties = {method.name for method in self.methods if is_property(method)}
        static = {method.name for method in self.methods if is_static(method)}
        plain = {method.name for method in self.methods if not is_property(method) and not is_static(method)}
        self.assertEqual((properties & plain, properties & static, plain & static), (set(), set(), set()))
        for node in self.nodes:
            if isinstance(node, ast.Call) and isinstance(node.func, ast.Attribute):
                self.assertNotIn(node.func.attr, properties)

    def pure_functions(self):
        """Operators, properties and their kin, and what they call."""
        told = {"__eq__", "__str__", "__repr__", "__len__"} | OPERATORS
        found = [method for method in self.methods if is_property(method) or method.name in told]
        names = set()
        for function in found:
            for name in called_names(function):
                if name in self.functions and name not in names:
                    names.add(name)
                    found.append(self.functions[name])
        return found

    def test_operators_and_properties_change_nothing(self):
        for function in self.pure_functions():
            for node in ast.walk(function):
                self.assertNotIsInstance(node, (ast.AugAssign, ast.Delete), function.name)
                if isinstance(node, (ast.Attribute, ast.Subscript)):
                    self.assertIsInstance(node.ctx, ast.Load, function.name)
                if isinstance(node, ast.Call) and isinstance(node.func, ast.Attribute):
                    self.assertNotIn(node.func.attr, CHANGING, function.name)

    def test_stars_of_calls_stand_before_names(self):
        for node in self.nodes:
            if isinstance(node, ast.Call):
                for passed in node.args:
                    if isinstance(passed, ast.Starred):
                        self.assertIsInstance(passed.value, ast.Name)

    def test_lists_instead_of_generator_expressions(self):
        for node in self.nodes:
            if isinstance(node, ast.Call) and isinstance(node.func, ast.Name) and node.func.id in TAKING_LISTS:
                self.assertFalse(any(isinstance(passed, ast.GeneratorExp) for passed in node.args))

    def test_generators_have_names_of_their_own(self):
        functions = [node for node in self.nodes if isinstance(node, ast.FunctionDef)]
        yielding = {function.name for function in functions
                    if any(isinstance(node, (ast.Yield, ast.YieldFrom)) for node in ast.walk(function))}
        for function in functions:
            if function.name in yielding:
                self.assertTrue(any(isinstance(node, (ast.Yield, ast.YieldFrom)) for node in ast.walk(function)))
                self.assertFalse(function.decorator_list or function.name.startswith("__"))

    def test_classes_with_items_are_not_iterated_over(self):
        for kind in self.classes:
            methods = {part.name: part for part in kind.body if isinstance(part, ast.FunctionDef)}
            if "__getitem__" in methods:
                self.assertEqual([type(row) for row in methods["__iter__"].body], [ast.Raise])

    def test_ends_of_trials_only_assign_attributes(self):
        for method in self.methods:
            if method.name == "__exit__":
                for row in method.body:
                    self.assertIsInstance(row, ast.Assign)
                    self.assertIsInstance(row.value, ast.Attribute)
        for node in self.nodes:
            if isinstance(node, ast.Try):
                for row in node.finalbody:
                    self.assertIsInstance(row, ast.Assign)
                    self.assertIsInstance(row.value, ast.Name)

    def test_methods_are_defined_once(self):
        for kind in self.classes:
            names = [part.name for part in kind.body if isinstance(part, ast.FunctionDef)]
            self.assertEqual(len(names), len(set(names)), kind.name)


if __name__ == "__main__":
    unittest.main()

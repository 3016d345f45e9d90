import inspect
import unittest

from rungladders.exact import Exact


class ExactInterfaceTest(unittest.TestCase):
    def test_defined_in_its_file(self):
        self.assertEqual(Exact.__module__, "rungladders.exact")

    def test_members_stand_in_the_class_itself(self):
        for name in ("__init__", "compare", "floor", "order", "__eq__", "__str__", "__repr__"):
            self.assertTrue(inspect.isfunction(vars(Exact)[name]), name)
        for name in ("fraction", "equation"):
            self.assertIsInstance(vars(Exact)[name], property)

    def test_arguments(self):
        for function, names in [
            (Exact.__init__, ["self", "square", "line", "whole"]), (Exact.compare, ["self", "resistance"]),
            (Exact.floor, ["self", "times"]), (Exact.order, ["self", "other"]),
        ]:
            self.assertEqual(list(inspect.signature(function).parameters), names)


if __name__ == "__main__":
    unittest.main()

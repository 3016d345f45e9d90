import unittest

from rungladders import errors
from samples import NO_INTEGERS, NO_RESISTANCES

BASES = {"WrongValue": ValueError, "WrongName": LookupError, "NoAnswer": ArithmeticError}
BASE_AND_ATTRIBUTE = {
    "NotAPattern": ("WrongValue", "given"),
    "NotARun": ("WrongValue", "given"),
    "InvalidResistance": ("WrongValue", "given"),
    "InvalidCount": ("WrongValue", "given"),
    "InvalidNumber": ("WrongValue", "given"),
    "InvalidText": ("WrongValue", "given"),
    "InvalidName": ("WrongValue", "given"),
    "InvalidClaim": ("WrongValue", "given"),
    "InvalidIndex": ("WrongValue", "given"),
    "InvalidPieces": ("WrongValue", "index"),
    "InvalidKinds": ("WrongValue", "index"),
    "InvalidStretches": ("WrongValue", "index"),
    "InvalidDeeds": ("WrongValue", "index"),
    "UnknownName": ("WrongName", "given"),
    "InUse": ("WrongName", "index"),
    "TooMany": ("NoAnswer", "most"),
    "Broken": ("NoAnswer", "index"),
    "NoLimit": ("NoAnswer", None),
    "NothingToUndo": ("NoAnswer", None),
}
WITH_ATTRIBUTE = {name: told for name, (_, told) in BASE_AND_ATTRIBUTE.items() if told is not None}
WITHOUT_ATTRIBUTE = [*BASES, "NoLimit", "NothingToUndo"]
VALUES = [0, 1, -1, 10 ** 40, 1.5, "text", ValueError, errors.NoLimit(), *NO_INTEGERS, *NO_RESISTANCES]


def error_class(name):
    return getattr(errors, name)


class AttributesTest(unittest.TestCase):
    def test_made_by_position(self):
        for name, told in WITH_ATTRIBUTE.items():
            for value in VALUES:
                made = error_class(name)(value)
                self.assertIs(getattr(made, told), value, name)
                self.assertEqual(list(vars(made)), [told], name)

    def test_made_by_name(self):
        for name, told in WITH_ATTRIBUTE.items():
            for value in VALUES:
                made = error_class(name)(**{told: value})
                self.assertIs(getattr(made, told), value, name)
                self.assertEqual(list(vars(made)), [told], name)

    def test_each_takes_just_its_attribute(self):
        for name, told in WITH_ATTRIBUTE.items():
            with self.subTest(name=name):
                with self.assertRaises(TypeError):
                    error_class(name)()
                with self.assertRaises(TypeError):
                    error_class(name)(1, 2)
                with self.assertRaises(TypeError):
                    error_class(name)(**{told: 1, "more": 2})
                with self.assertRaises(TypeError):
                    error_class(name)(**{"more": 2})

    def test_bases_and_classes_without_attributes_take_none(self):
        for name in WITHOUT_ATTRIBUTE:
            with self.subTest(name=name):
                self.assertEqual(vars(error_class(name)()), {})
                for value in (None, 1, "text", ()):
                    with self.assertRaises(TypeError):
                        error_class(name)(value)
                for told in ("given", "index", "most"):
                    with self.assertRaises(TypeError):
                        error_class(name)(**{told: 1})


class FamilyTest(unittest.TestCase):
    def test_classes_are_defined_here_and_there_are_no_others(self):
        here = {name for name, value in vars(errors).items() if isinstance(value, type)}
        self.assertEqual(here, {*BASES, *BASE_AND_ATTRIBUTE})
        for name in here:
            self.assertEqual(error_class(name).__module__, "rungladders.errors")

    def test_bases_belong_to_python_alone(self):
        for name, python_base in BASES.items():
            self.assertEqual(error_class(name).__bases__, (python_base,))

    def test_each_class_belongs_to_its_base_alone(self):
        for name, (base, _) in BASE_AND_ATTRIBUTE.items():
            self.assertEqual(error_class(name).__bases__, (error_class(base),))
            self.assertTrue(issubclass(error_class(name), BASES[base]))
            for other in [*BASES, *BASE_AND_ATTRIBUTE]:
                self.assertEqual(issubclass(error_class(name), error_class(other)), other in (name, base), (name, other))
            for other, python_base in BASES.items():
                self.assertEqual(issubclass(error_class(name), python_base), other == base)

    def test_raised_and_caught_by_each_base(self):
        for name, (base, told) in BASE_AND_ATTRIBUTE.items():
            for caught in (error_class(name), error_class(base), BASES[base]):
                made = error_class(name)() if told is None else error_class(name)("passed")
                with self.assertRaises(caught) as context:
                    raise made
                self.assertIs(context.exception, made)


if __name__ == "__main__":
    unittest.main()

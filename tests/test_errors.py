import unittest

from fallranks import errors
from tests.samples import odd_values

BASES = {"WrongValue": ValueError, "WrongName": LookupError, "NotPossible": ArithmeticError}

GIVEN = {
    "WrongValue": ["InvalidText", "InvalidName", "InvalidIndex", "InvalidPlace", "InvalidPoint", "InvalidForm",
                   "InvalidRank", "InvalidWish", "NotProgram"],
    "WrongName": ["UnknownName"],
    "NotPossible": ["NoRow", "TooMany"],
}
INDEX = {
    "WrongValue": ["InvalidNames", "InvalidSayings", "InvalidBranches", "InvalidForms", "InvalidRanks", "InvalidWalk",
                   "InvalidChanges", "InvalidWishes"],
    "WrongName": ["InUse"],
    "NotPossible": ["Stuck", "Broken"],
}


def listed():
    """Triples of the name of a class, of its base class, and of its attribute, or None."""
    rows = [("NothingToUndo", "NotPossible", None)]
    for attribute, table in (("given", GIVEN), ("index", INDEX)):
        for base, names in table.items():
            rows.extend([(name, base, attribute) for name in names])
    return rows


class Bases(unittest.TestCase):

    def test_base_classes_derive_from_pythons_classes_alone(self):
        for name, python in BASES.items():
            with self.subTest(name=name):
                self.assertEqual(getattr(errors, name).__bases__, (python,))
                self.assertIsInstance(getattr(errors, name)(), python)

    def test_each_class_belongs_to_its_base_class_and_to_no_other_one(self):
        own = [one for one in vars(errors).values() if isinstance(one, type)]
        self.assertEqual(len(own), len(listed()) + len(BASES))
        for name, base, _ in listed():
            with self.subTest(name=name):
                made = getattr(errors, name)
                above = [one for one in own if issubclass(made, one)]
                self.assertEqual(set(above), {made, getattr(errors, base)})
                self.assertEqual([one for one in BASES if issubclass(made, BASES[one])], [base])

    def test_each_class_is_defined_in_the_file(self):
        for name, _, _ in listed():
            self.assertEqual(getattr(errors, name).__module__, "fallranks.errors")
            self.assertIn("__init__", vars(getattr(errors, name)))


class Attributes(unittest.TestCase):

    def values(self):
        return [0, 1, -5, 10 ** 99, "", "text", "a\nb", (), (1, (2, "x")), *odd_values()]

    def test_attribute_by_position_and_by_name_whatever_it_is(self):
        for name, _, attribute in listed():
            if attribute is None:
                continue
            made = getattr(errors, name)
            for value in self.values():
                with self.subTest(name=name):
                    self.assertIs(getattr(made(value), attribute), value)
                    self.assertIs(getattr(made(**{attribute: value}), attribute), value)

    def test_one_attribute_exactly(self):
        for name, _, attribute in listed():
            if attribute is None:
                continue
            made = getattr(errors, name)
            other = {"given": "index", "index": "given"}[attribute]
            with self.subTest(name=name):
                self.assertEqual(vars(made(3)), {attribute: 3})
                self.assertFalse(hasattr(made(3), other))
                for wrong in ((), (1, 2)):
                    with self.assertRaises(TypeError):
                        made(*wrong)
                with self.assertRaises(TypeError):
                    made(**{other: 1})

    def test_nothing_to_undo_has_none(self):
        self.assertEqual(vars(errors.NothingToUndo()), {})
        with self.assertRaises(TypeError):
            errors.NothingToUndo(1)

    def test_they_can_be_raised_and_shown(self):
        for name, base, attribute in listed():
            made = getattr(errors, name)
            error = made() if attribute is None else made(object())
            with self.subTest(name=name), self.assertRaises(getattr(errors, base)) as caught:
                raise error
            self.assertIs(caught.exception, error)
            self.assertTrue(str(error))

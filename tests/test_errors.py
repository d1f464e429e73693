import unittest

from sparebridges import errors
from tests.values import ANYTHING

BASES = {"WrongValue": ValueError, "WrongName": LookupError, "NoAnswer": ArithmeticError}
LISTED = {
    "InvalidText": ("WrongValue", "given"),
    "InvalidNumber": ("WrongValue", "given"),
    "InvalidName": ("WrongValue", "given"),
    "InvalidWish": ("WrongValue", "given"),
    "InvalidIndex": ("WrongValue", "given"),
    "NotASea": ("WrongValue", "given"),
    "InvalidIslands": ("WrongValue", "index"),
    "InvalidBridges": ("WrongValue", "index"),
    "InvalidWishes": ("WrongValue", "index"),
    "InvalidEnds": ("WrongValue", "index"),
    "InvalidPrices": ("WrongValue", "index"),
    "InvalidForward": ("WrongValue", "index"),
    "InvalidOffers": ("WrongValue", "index"),
    "InvalidGrowth": ("WrongValue", "index"),
    "UnknownName": ("WrongName", "given"),
    "TooWeak": ("NoAnswer", "given"),
    "TooMany": ("NoAnswer", "given"),
    "NothingToUndo": ("NoAnswer", None),
    "Broken": ("NoAnswer", "index"),
}
WITH_ATTRIBUTE = [(name, attribute) for name, (_, attribute) in LISTED.items() if attribute]


def ancestors_in_package(kind):
    return [one.__name__ for one in kind.__mro__ if one.__module__.startswith("sparebridges")]


class ClassesTest(unittest.TestCase):
    def test_base_classes_stand_under_their_builtin_alone(self):
        for name, builtin in BASES.items():
            kind = getattr(errors, name)
            self.assertEqual(ancestors_in_package(kind), [name])
            self.assert_only_under(kind, builtin)

    def test_other_classes_stand_under_their_base_class_alone(self):
        for name, (base, _) in LISTED.items():
            kind = getattr(errors, name)
            self.assertEqual(ancestors_in_package(kind), [name, base])
            self.assert_only_under(kind, BASES[base])

    def test_classes_are_defined_in_this_module(self):
        for name in [*BASES, *LISTED]:
            self.assertEqual(getattr(errors, name).__module__, "sparebridges.errors")

    def assert_only_under(self, kind, builtin):
        for other in BASES.values():
            self.assertEqual(issubclass(kind, other), other is builtin, (kind, other))


class ObjectsTest(unittest.TestCase):
    def test_made_by_position(self):
        for name, attribute in WITH_ATTRIBUTE:
            for value in ANYTHING:
                self.assertIs(getattr(getattr(errors, name)(value), attribute), value)

    def test_made_by_name(self):
        for name, attribute in WITH_ATTRIBUTE:
            for value in ANYTHING:
                self.assertIs(getattr(getattr(errors, name)(**{attribute: value}), attribute), value)

    def test_a_list_is_kept_itself_and_unchanged(self):
        value = [1, [2], {"a": (3,)}]
        for name, attribute in WITH_ATTRIBUTE:
            error = getattr(errors, name)(value)
            self.assertIs(getattr(error, attribute), value)
        self.assertEqual(value, [1, [2], {"a": (3,)}])

    def test_has_only_the_attribute_that_is_listed(self):
        for name, attribute in WITH_ATTRIBUTE:
            self.assertEqual(vars(getattr(errors, name)(7)), {attribute: 7})

    def test_takes_just_one_value_under_its_name(self):
        for name, attribute in WITH_ATTRIBUTE:
            kind = getattr(errors, name)
            wrong = {"given": "index", "index": "given"}[attribute]
            self.assertRaises(TypeError, kind)
            self.assertRaises(TypeError, kind, 1, 2)
            self.assertRaises(TypeError, kind, **{wrong: 1})

    def test_nothing_to_undo_is_made_with_nothing(self):
        self.assertEqual(vars(errors.NothingToUndo()), {})
        self.assertRaises(TypeError, errors.NothingToUndo, 1)
        self.assertRaises(TypeError, errors.NothingToUndo, given=1)

    def test_caught_by_its_own_class_its_base_and_the_builtin(self):
        for name, (base, attribute) in LISTED.items():
            kind = getattr(errors, name)
            for caught in (kind, getattr(errors, base), BASES[base]):
                error = kind(3) if attribute else kind()
                with self.assertRaises(caught) as held:
                    raise error
                self.assertIs(held.exception, error)

    def test_true_and_equal_to_itself_alone(self):
        for name, (_, attribute) in LISTED.items():
            kind = getattr(errors, name)
            one, other = (kind(0), kind(0)) if attribute else (kind(), kind())
            self.assertTrue(one)
            self.assertTrue(one == one and not one != one)
            self.assertTrue(one != other and not one == other)


if __name__ == "__main__":
    unittest.main()

"""The errors: their families, their fields by place and by name, their defaults."""

import unittest

from likenest import errors

BARE = ["NoSigns", "NoPlace", "NoGivens", "NoUnlikes", "NoLines", "NoModel", "NoPattern", "NoRules", "NoRounds",
        "NoCosts", "NoLine"]
NEST_FIELDS = {"NoTerm": ("at",), "TooMany": ("many", "most"), "NoText": ("row",)}
ABSENT_FIELDS = {"NoLevel": ("left",), "NotKnown": ("term",), "NotAlike": ("one", "other")}
WITH_DEFAULT = {"NoTerm": "at", "NoText": "row", "NoLevel": "left"}


def kind(name):
    return getattr(errors, name)


class Families(unittest.TestCase):
    def test_the_two_families(self):
        self.assertEqual(errors.NestError.__bases__, (ValueError,))
        self.assertEqual(errors.AbsentError.__bases__, (LookupError,))
        self.assertFalse(issubclass(errors.AbsentError, errors.NestError))
        self.assertFalse(issubclass(errors.AbsentError, ValueError))
        self.assertFalse(issubclass(errors.NestError, LookupError))

    def test_each_is_straight_under_its_family(self):
        for name in BARE + list(NEST_FIELDS):
            self.assertEqual(kind(name).__bases__, (errors.NestError,), name)
        for name in ABSENT_FIELDS:
            self.assertEqual(kind(name).__bases__, (errors.AbsentError,), name)

    def test_none_is_another_one(self):
        names = BARE + list(NEST_FIELDS) + list(ABSENT_FIELDS)
        for one in names:
            for other in names:
                self.assertEqual(issubclass(kind(one), kind(other)), one == other, (one, other))


class Fields(unittest.TestCase):
    def test_made_with_nothing(self):
        for name in BARE:
            with self.assertRaises(kind(name)) as caught:
                raise kind(name)()
            self.assertEqual(vars(caught.exception), {}, name)

    def test_by_place_and_by_name(self):
        for name, fields in {**NEST_FIELDS, **ABSENT_FIELDS}.items():
            for worths in ((31, 30), (0, 1), ((3, 0, 1), (0,))):
                told = dict(zip(fields, worths))
                worths = worths[:len(fields)]
                self.assertEqual(vars(kind(name)(*worths)), told, name)
                self.assertEqual(vars(kind(name)(**told)), told, name)
                self.assertEqual(vars(kind(name)(worths[0], **dict(list(told.items())[1:]))), told, name)

    def test_names_in_any_order(self):
        self.assertEqual(vars(errors.TooMany(most=30, many=31)), {"many": 31, "most": 30})
        self.assertEqual(vars(errors.NotAlike(other=(1,), one=(0,))), {"one": (0,), "other": (1,)})

    def test_defaults_are_nought(self):
        for name, field in WITH_DEFAULT.items():
            worth = getattr(kind(name)(), field)
            self.assertIs(int, type(worth), name)
            self.assertEqual(worth, 0, name)

    def test_fields_without_a_default_are_wanted(self):
        for name in ("TooMany", "NotKnown", "NotAlike"):
            with self.assertRaises(TypeError):
                kind(name)()
        for name in ("TooMany", "NotAlike"):
            with self.assertRaises(TypeError):
                kind(name)(1)

    def test_each_can_be_shown(self):
        for error in (errors.NoTerm(), errors.TooMany(31, 30), errors.NoText(2), errors.NoLevel(1),
                      errors.NotKnown((3, 0, 1)), errors.NotAlike((0,), (1,))):
            self.assertIsInstance(str(error), str)
            self.assertIsInstance(repr(error), str)


if __name__ == "__main__":
    unittest.main()

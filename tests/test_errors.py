"""The classes of drawerlocks.errors and their fields."""

import unittest

from drawerlocks import errors

PLAIN = (
    "BadDrawers", "BadCabinet", "BadStanding", "BadPattern", "BadDrawer", "BadSet", "Barred", "Unlike", "BadCosts",
    "BadOrder",
)
FIELDS = {
    "BadBars": ("index",), "BadPairs": ("index",), "BadTries": ("index",), "BadSeen": ("index",),
    "BadNumber": ("n",), "TooMany": ("most",), "InvalidText": ("line", "word"),
}


class TestErrors(unittest.TestCase):

    def test_base(self):
        self.assertEqual(errors.DrawerError.__bases__, (ValueError,))
        self.assertEqual(errors.DrawerError.__module__, "drawerlocks.errors")

    def test_directly_under_the_base(self):
        for name in PLAIN + tuple(FIELDS):
            with self.subTest(name=name):
                kind = getattr(errors, name)
                self.assertEqual(kind.__bases__, (errors.DrawerError,))
                self.assertEqual(kind.__module__, "drawerlocks.errors")

    def test_no_further_classes(self):
        found = {name for name in vars(errors) if not name.startswith("_")}
        self.assertEqual(found, {"DrawerError", *PLAIN, *FIELDS})

    def test_plain_ones_can_be_raised(self):
        for name in PLAIN:
            with self.subTest(name=name), self.assertRaises(errors.DrawerError):
                raise getattr(errors, name)("words")

    def test_fields_by_position_and_by_keyword(self):
        for name, fields in FIELDS.items():
            for values in ((0, 1), (None, 2), (5, 4)):
                told = dict(zip(fields, values))
                with self.subTest(name=name, told=told):
                    kind = getattr(errors, name)
                    for error in (kind(*told.values()), kind(**told)):
                        self.assertEqual({field: getattr(error, field) for field in fields}, told)

    def test_number_may_be_any_value(self):
        for value in (None, True, "x", (1,), [1], {1: 2}, 10 ** 5000):
            self.assertEqual(errors.BadNumber(value).n, value)
            self.assertIsInstance(str(errors.BadNumber(value)), str)


if __name__ == "__main__":
    unittest.main()

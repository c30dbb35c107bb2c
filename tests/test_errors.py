"""The classes of drawerlocks.errors and their fields."""

import unittest

from drawerlocks import errors
from drawerlocks.cabinets import Cabinet, behind, can
from drawerlocks.costs import cheapest
from drawerlocks.counts import count_rows
from drawerlocks.desks import Desk
from drawerlocks.forces import force
from drawerlocks.guards import guards
from drawerlocks.likeness import alike
from drawerlocks.names import renamed
from drawerlocks.seen import fits_many
from drawerlocks.texts import read
from drawerlocks.together import paper
from drawerlocks.tries import sure
from samples import FAST, FREE, STAIRS, raised

PLAIN = (
    "BadDrawers", "BadCabinet", "BadStanding", "BadPattern", "BadDrawer", "BadSet", "Barred", "Unlike", "BadCosts",
    "BadOrder",
)
FIELDS = {
    "BadBars": ("index",), "BadPairs": ("index",), "BadTries": ("index",), "BadSeen": ("index",),
    "BadNumber": ("n",), "TooMany": ("most",), "InvalidText": ("line", "word"),
}
# For each error one wrong call, and what the fields then tell.
WRONG_CALLS = {
    "BadDrawers": ((Cabinet, 8, ()), ()),
    "BadBars": ((Cabinet, 2, ((0, "open", 0, "shut"),)), (0,)),
    "BadCabinet": ((force, (2, ()), "oo"), ()),
    "BadStanding": ((can, FREE, "s?"), ()),
    "BadPattern": ((force, FREE, "ooo"), ()),
    "BadDrawer": ((Desk(FREE).pull, 2), ()),
    "BadSet": ((paper, FREE, (1, 0)), ()),
    "BadPairs": ((guards, FREE, [(0, 1), (1, 0)], 2), (1,)),
    "BadNumber": ((count_rows, FREE, 61), (61,)),
    "BadTries": ((sure, 2, None), (None,)),
    "Barred": ((behind, FAST, "ss", 0), ()),
    "TooMany": ((guards, Cabinet(5, ()), [], 2), (4,)),
    "Unlike": ((alike, FREE, STAIRS), ()),
    "BadCosts": ((cheapest, FREE, (1,), "oo"), ()),
    "BadOrder": ((renamed, FREE, (0, 0)), ()),
    "BadSeen": ((fits_many, FREE, [0, 2]), (1,)),
    "InvalidText": ((read, "drawers 2\nbar 0 open 0 shut"), (2, 4)),
}


class TestErrors(unittest.TestCase):

    def test_base(self):
        self.assertEqual(errors.DrawerError.__bases__, (ValueError,))
        self.assertEqual(errors.DrawerError.__module__, "drawerlocks.errors")

    def test_directly_under_the_base(self):
        for name in PLAIN + tuple(FIELDS):
            with self.subTest(name=name):
                kind = getattr(errors, name)
                self.assertEqual(kind.__bases__, (errors.DrawerError,))
                self.assertEqual(kind.__module__, "drawerlocks.errors")

    def test_no_further_classes(self):
        found = {name for name in vars(errors) if not name.startswith("_")}
        self.assertEqual(found, {"DrawerError", *PLAIN, *FIELDS})

    def test_plain_ones_can_be_raised(self):
        for name in PLAIN:
            with self.subTest(name=name), self.assertRaises(errors.DrawerError):
                raise getattr(errors, name)("words")

    def test_fields_by_position_and_by_keyword(self):
        for name, fields in FIELDS.items():
            for values in ((0, 1), (None, 2), (5, 4)):
                told = dict(zip(fields, values))
                with self.subTest(name=name, told=told):
                    kind = getattr(errors, name)
                    for error in (kind(*told.values()), kind(**told)):
                        self.assertEqual({field: getattr(error, field) for field in fields}, told)

    def test_wrong_calls(self):
        self.assertEqual(set(WRONG_CALLS), {*PLAIN, *FIELDS})
        for name, (call, values) in WRONG_CALLS.items():
            with self.subTest(name=name):
                error = raised(*call)
                self.assertIsInstance(error, errors.DrawerError)
                self.assertIsInstance(error, ValueError)
                kinds = [other for other in (*PLAIN, *FIELDS) if isinstance(error, getattr(errors, other))]
                self.assertEqual(kinds, [name])
                self.assertEqual(tuple(getattr(error, field) for field in FIELDS.get(name, ())), values)

    def test_number_may_be_any_value(self):
        for value in (None, True, "x", (1,), [1], {1: 2}, 10 ** 5000):
            self.assertEqual(errors.BadNumber(value).n, value)
            self.assertIsInstance(str(errors.BadNumber(value)), str)


if __name__ == "__main__":
    unittest.main()

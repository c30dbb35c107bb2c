"""Promises 1 to 3: cabinets, their bars, and the pulls that go in a standing."""

import itertools
import unittest

from drawerlocks.cabinets import Cabinet, barring, behind, can
from drawerlocks.errors import (
    BadBars, BadCabinet, BadDrawer, BadDrawers, BadPattern, BadStanding, Barred,
)
from samples import (
    CABINETS, FAST, FREE, MANY_BARS, NO_CABINETS, NO_DRAWERS_OF_TWO, NO_STANDINGS_OF_TWO, ONE_OPEN, STAIRS, raised,
    raised_kind,
)

BAR = (0, "open", 1, "shut")


class TestExamples(unittest.TestCase):

    def test_word_for_word(self):
        one_open = Cabinet(2, ((0, "open", 1, "shut"), (1, "open", 0, "shut")))
        told = [
            can(one_open, "os"), can(one_open, "ss"), behind(one_open, "ss", 1), barring(one_open, "os", 1),
            can(one_open, "oo"),
        ]
        self.assertEqual(told, [[0], [0, 1], "so", [(1, "open", 0, "shut")], [0, 1]])


class TestDrawers(unittest.TestCase):

    def test_from_one_to_seven(self):
        for drawers in range(1, 8):
            self.assertEqual(Cabinet(drawers, ()).drawers, drawers)
            self.assertEqual(Cabinet(drawers, ()).bars, ())

    def test_bad_drawers(self):
        for drawers in (0, 8, -1, 10 ** 30, True, False, None, "2", "", (), (2,), [2], [], {}, {2: 2}):
            with self.subTest(drawers=drawers):
                self.assertIs(raised_kind(Cabinet, drawers, ()), BadDrawers)

    def test_bad_drawers_ahead_of_bad_bars(self):
        for bars in (None, [], (1,), (BAR, BAR), (BAR,)):
            with self.subTest(bars=bars):
                self.assertIs(raised_kind(Cabinet, 0, bars), BadDrawers)
                self.assertIs(raised_kind(Cabinet, True, bars), BadDrawers)


class TestBars(unittest.TestCase):

    def check_index(self, drawers, bars, index):
        with self.subTest(drawers=drawers, bars=bars):
            error = raised(Cabinet, drawers, bars)
            self.assertIs(type(error), BadBars)
            self.assertEqual(error.index, index)
            self.assertIsNot(error.index, False)

    def test_ordinary(self):
        bars = ((0, "open", 1, "shut"), (0, "shut", 1, "open"), (1, "open", 0, "open"), (2, "shut", 0, "open"))
        cabinet = Cabinet(3, bars)
        self.assertEqual((cabinet.drawers, cabinet.bars), (3, bars))
        self.assertIsInstance(cabinet.bars, tuple)

    def test_all_bars_of_seven_drawers(self):
        bars = tuple(
            (drawer, way, other, stand)
            for drawer in range(7) for way in ("open", "shut") for other in range(7) if other != drawer
            for stand in ("open", "shut")
        )
        self.assertEqual(Cabinet(7, bars).bars, bars)
        self.assertEqual(len(bars), 168)

    def test_last_drawer(self):
        self.assertEqual(Cabinet(7, ((6, "open", 5, "shut"),)).bars, ((6, "open", 5, "shut"),))
        self.check_index(6, ((6, "open", 5, "shut"),), 0)
        self.check_index(6, ((5, "open", 6, "shut"),), 0)

    def test_no_tuple(self):
        for bars in (None, True, 0, 1, "", "bars", [], [BAR], {}, {BAR: 1}):
            self.check_index(2, bars, None)

    def test_no_bar(self):
        wrong = (
            None, True, 0, "0o1s", "", (), [], {}, list(BAR), {0: "open", 1: "shut"},
            (0, "open", 1), (0, "open", 1, "shut", 0), BAR + BAR,
            (True, "open", 0, "shut"), (False, "open", 1, "shut"), (0, "open", True, "shut"),
            (1, "open", False, "shut"), (2, "open", 1, "shut"), (0, "open", 2, "shut"), (-1, "open", 1, "shut"),
            (0, "open", -1, "shut"), (0, "open", 0, "shut"), (1, "shut", 1, "open"),
            (0, "opens", 1, "shut"), (0, "Open", 1, "shut"), (0, "o", 1, "shut"), (0, "", 1, "shut"),
            (0, "open", 1, "shot"), (0, "open", 1, "s"), (0, "open", 1, ""), (0, True, 1, "shut"),
            (0, "open", 1, None), (0, None, 1, "shut"), (0, ["open"], 1, "shut"), (0, "open", 1, {}),
            ("0", "open", 1, "shut"), (0, "open", "1", "shut"), ((0,), "open", 1, "shut"), ([], "open", 1, "shut"),
            (0, "open", None, "shut"), (None, "open", 1, "shut"), ("open", 0, "shut", 1),
        )
        for thing in wrong:
            self.check_index(2, (thing,), 0)
            self.check_index(2, (BAR, thing), 1)
            self.check_index(2, (thing, BAR), 0)
            self.check_index(2, (thing, None), 0)

    def test_alike_or_not_ascending(self):
        self.check_index(2, (BAR, BAR), 1)
        self.check_index(2, ((1, "open", 0, "shut"), BAR), 1)
        self.check_index(2, ((0, "shut", 1, "open"), (0, "open", 1, "shut")), 1)
        self.check_index(3, ((0, "open", 2, "open"), (0, "open", 1, "shut")), 1)
        self.check_index(2, ((0, "open", 1, "shut"), (0, "open", 1, "open")), 1)
        self.check_index(2, (BAR, (1, "open", 0, "shut"), (1, "open", 0, "shut")), 2)

    def test_the_first_of_several_counts(self):
        self.check_index(2, (BAR, BAR, None), 1)
        self.check_index(2, (BAR, None, BAR), 1)
        self.check_index(2, ((1, "open", 0, "shut"), BAR, BAR, None), 1)
        # A thing that is no bar tells nothing of the one behind it: only it is named.
        self.check_index(2, (BAR, (0, "open", 1, "zzz"), (0, "open", 1, "open")), 1)

    def test_one_drawer_has_no_bars(self):
        self.check_index(1, ((0, "open", 1, "shut"),), 0)
        self.check_index(1, ((0, "open", 0, "shut"),), 0)


class TestEquality(unittest.TestCase):

    def test_equal_parts(self):
        self.assertTrue(Cabinet(2, (BAR,)) == Cabinet(2, (BAR,)))
        self.assertFalse(Cabinet(2, (BAR,)) != Cabinet(2, (BAR,)))
        self.assertTrue(Cabinet(1, ()) == Cabinet(1, ()))

    def test_unlike_parts(self):
        cabinets = (
            Cabinet(2, ()), Cabinet(3, ()), Cabinet(2, (BAR,)), Cabinet(3, (BAR,)),
            Cabinet(2, ((0, "open", 1, "open"),)), Cabinet(2, (BAR, (1, "open", 0, "shut"))),
        )
        for one, other in itertools.permutations(cabinets, 2):
            self.assertFalse(one == other)
            self.assertTrue(one != other)

    def test_other_kinds(self):
        class Lookalike:
            drawers = 2
            bars = ()
            _drawers = 2
            _bars = ()

        for value in (*NO_CABINETS, Lookalike()):
            with self.subTest(value=value):
                self.assertFalse(FREE == value)
                self.assertFalse(value == FREE)
                self.assertTrue(FREE != value)


class TestProperties(unittest.TestCase):

    def test_they_are_properties(self):
        self.assertIsInstance(Cabinet.drawers, property)
        self.assertIsInstance(Cabinet.bars, property)
        for name in ("drawers", "bars"):
            with self.assertRaises(AttributeError):
                setattr(Cabinet(2, ()), name, 3)


class TestCan(unittest.TestCase):

    def test_without_bars_all_go(self):
        for drawers in range(1, 8):
            for signs in itertools.product("os", repeat=drawers):
                self.assertEqual(can(Cabinet(drawers, ()), "".join(signs)), list(range(drawers)))

    def test_each_single_bar(self):
        for way, stand in itertools.product(("open", "shut"), repeat=2):
            cabinet = Cabinet(2, ((0, way, 1, stand),))
            for mine, others in itertools.product("os", repeat=2):
                hindered = mine == {"open": "s", "shut": "o"}[way] and others != stand[0]
                with self.subTest(way=way, stand=stand, standing=mine + others):
                    self.assertEqual(can(cabinet, mine + others), [1] if hindered else [0, 1])

    def test_several_bars(self):
        self.assertEqual(can(STAIRS, "sss"), [0])
        self.assertEqual(can(STAIRS, "oss"), [0, 1])
        self.assertEqual(can(STAIRS, "oos"), [0, 1, 2])
        self.assertEqual(can(STAIRS, "sos"), [0, 1, 2])
        self.assertEqual(can(MANY_BARS, "sso"), [0, 2])
        self.assertEqual(can(MANY_BARS, "oso"), [0, 2])
        self.assertEqual(can(MANY_BARS, "oss"), [0, 1, 2])
        self.assertEqual(can(MANY_BARS, "oos"), [1, 2])

    def test_no_pull_goes(self):
        self.assertEqual(can(FAST, "ss"), [])
        both = Cabinet(2, ((0, "open", 1, "open"), (0, "open", 1, "shut")))
        self.assertEqual((can(both, "ss"), can(both, "so"), can(both, "os")), ([1], [1], [0, 1]))

    def test_not_reached_standings(self):
        self.assertEqual(can(ONE_OPEN, "oo"), [0, 1])
        self.assertEqual(can(FAST, "oo"), [0, 1])


class TestBarring(unittest.TestCase):

    def test_no_bar(self):
        self.assertEqual(barring(FREE, "ss", 0), [])
        self.assertEqual(barring(ONE_OPEN, "ss", 1), [])
        # These bars speak of the other way.
        self.assertEqual(barring(ONE_OPEN, "oo", 0), [])
        self.assertEqual(barring(MANY_BARS, "sss", 0), [])

    def test_one_bar(self):
        self.assertEqual(barring(ONE_OPEN, "so", 0), [(0, "open", 1, "shut")])
        self.assertEqual(barring(MANY_BARS, "oos", 0), [(0, "shut", 1, "shut")])
        self.assertEqual(barring(MANY_BARS, "oso", 1), [(1, "open", 2, "shut")])

    def test_several_bars(self):
        self.assertEqual(barring(MANY_BARS, "sso", 1), [(1, "open", 0, "open"), (1, "open", 2, "shut")])
        bars = tuple((6, "open", other, "open") for other in range(6))
        self.assertEqual(barring(Cabinet(7, bars), "sssssss", 6), list(bars))
        self.assertEqual(barring(Cabinet(7, bars), "sososss", 6), [bars[0], bars[2], bars[4], bars[5]])

    def test_agrees_with_can_and_behind(self):
        for cabinet in CABINETS:
            for signs in itertools.product("os", repeat=cabinet.drawers):
                standing = "".join(signs)
                for drawer in range(cabinet.drawers):
                    told = barring(cabinet, standing, drawer)
                    self.assertEqual(told == [], drawer in can(cabinet, standing))
                    self.assertEqual(told == [], raised_kind(behind, cabinet, standing, drawer) is not Barred)


class TestBehind(unittest.TestCase):

    def test_both_ways(self):
        self.assertEqual(behind(FREE, "ss", 0), "os")
        self.assertEqual(behind(FREE, "ss", 1), "so")
        self.assertEqual(behind(FREE, "oo", 0), "so")
        self.assertEqual(behind(FREE, "oo", 1), "os")
        self.assertEqual(behind(Cabinet(1, ()), "o", 0), "s")
        self.assertEqual(behind(Cabinet(7, ()), "sosososos"[:7], 6), "sososoo")

    def test_barred(self):
        self.assertIs(raised_kind(behind, ONE_OPEN, "os", 1), Barred)
        self.assertIs(raised_kind(behind, FAST, "ss", 0), Barred)
        self.assertIs(raised_kind(behind, MANY_BARS, "sso", 1), Barred)
        self.assertIs(raised_kind(behind, MANY_BARS, "oos", 0), Barred)


class TestWrongArguments(unittest.TestCase):

    def test_bad_cabinet_first_of_all(self):
        for value in NO_CABINETS:
            for standing in ("ss", "s", None):
                with self.subTest(value=value, standing=standing):
                    self.assertIs(raised_kind(can, value, standing), BadCabinet)
                    for drawer in (0, 9, None):
                        self.assertIs(raised_kind(barring, value, standing, drawer), BadCabinet)
                        self.assertIs(raised_kind(behind, value, standing, drawer), BadCabinet)

    def test_bad_standing_ahead_of_bad_drawer(self):
        for value in NO_STANDINGS_OF_TWO:
            with self.subTest(value=value):
                self.assertIs(raised_kind(can, ONE_OPEN, value), BadStanding)
                for drawer in (0, 2, None, True):
                    self.assertIs(raised_kind(barring, ONE_OPEN, value, drawer), BadStanding)
                    self.assertIs(raised_kind(behind, ONE_OPEN, value, drawer), BadStanding)

    def test_bad_drawer(self):
        for value in NO_DRAWERS_OF_TWO:
            with self.subTest(value=value):
                for standing in ("ss", "os", "so", "oo"):
                    self.assertIs(raised_kind(barring, ONE_OPEN, standing, value), BadDrawer)
                    self.assertIs(raised_kind(behind, ONE_OPEN, standing, value), BadDrawer)

    def test_a_standing_of_another_cabinet(self):
        self.assertIs(raised_kind(can, STAIRS, "ss"), BadStanding)
        self.assertIs(raised_kind(can, Cabinet(1, ()), "ss"), BadStanding)
        self.assertIs(raised_kind(behind, Cabinet(1, ()), "s", 1), BadDrawer)
        self.assertEqual(behind(STAIRS, "oos", 2), "ooo")

    def test_no_bad_pattern_here(self):
        self.assertIsNot(raised_kind(can, FREE, "??"), BadPattern)


class TestNothingIsShared(unittest.TestCase):

    def test_returned_lists_are_new(self):
        can(ONE_OPEN, "ss").append(9)
        self.assertEqual(can(ONE_OPEN, "ss"), [0, 1])
        barring(ONE_OPEN, "os", 1).clear()
        self.assertEqual(barring(ONE_OPEN, "os", 1), [(1, "open", 0, "shut")])
        self.assertIsNot(can(ONE_OPEN, "ss"), can(ONE_OPEN, "ss"))
        self.assertIsNot(barring(FREE, "ss", 0), barring(FREE, "ss", 0))

    def test_errors_change_nothing(self):
        cabinet = Cabinet(2, (BAR,))
        for arguments in (("xx", 0), ("so", 9), ("so", 0)):
            self.assertIsNotNone(raised(behind, cabinet, *arguments))
        self.assertEqual((cabinet.drawers, cabinet.bars), (2, (BAR,)))
        self.assertEqual(can(cabinet, "ss"), [0, 1])

    def test_arguments_stay_as_they_are(self):
        bars = [list(BAR), [BAR]]
        self.assertIsNotNone(raised(Cabinet, 2, bars))
        self.assertIsNotNone(raised(Cabinet, 2, tuple(bars)))
        self.assertEqual(bars, [list(BAR), [BAR]])


if __name__ == "__main__":
    unittest.main()

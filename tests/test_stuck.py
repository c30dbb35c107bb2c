"""Promise 6: standings from which no drawer, or not the right one, can be moved any more."""

import unittest

from drawerlocks.cabinets import Cabinet, can
from drawerlocks.errors import BadCabinet, BadDrawer
from drawerlocks.reach import right_row, row_between
from drawerlocks.stuck import dead_end, frozen, never_opened, no_return
from samples import CABINETS, FAST, FREE, MANY_BARS, NO_CABINETS, NO_DRAWERS_OF_TWO, ONE_OPEN, STAIRS, raised_kind
from slow import chosen_cabinets, first_of_rows, slow_first_rows, slow_pulls, slow_rows, two_drawers

# Behind (0,) nothing goes any more, behind (1,) all can still be shut.
TRAP = Cabinet(2, ((0, "shut", 1, "open"), (1, "open", 0, "shut")))
# Each drawer is opened behind the one ahead of it, and cannot be shut any more.
LATCHES = Cabinet(3, (
    (0, "shut", 1, "open"), (0, "shut", 1, "shut"), (1, "open", 0, "open"), (1, "shut", 0, "open"),
    (1, "shut", 0, "shut"), (2, "open", 1, "open"), (2, "shut", 0, "open"), (2, "shut", 0, "shut"),
))
# Drawer 1 cannot be shut any more; 0 goes at all times.
ONCE = Cabinet(2, ((1, "shut", 0, "open"), (1, "shut", 0, "shut")))


def both_ways(drawer, way, other):
    """Two bars with which the drawer is never moved that way."""
    return (drawer, way, other, "open"), (drawer, way, other, "shut")


def rows_onward(cabinet):
    """For each first row to a reached standing the standings to which further rows lead."""
    return [(row, list(slow_rows(cabinet, end))) for end, row in slow_first_rows(cabinet).items()]


def moves_somewhere(pulls, ends, drawer):
    return any(pulls[end][drawer] is not None for end in ends)


class TestExamples(unittest.TestCase):

    def test_word_for_word(self):
        trap = Cabinet(2, ((0, "shut", 1, "open"), (1, "open", 0, "shut")))
        once = Cabinet(2, ((0, "open", 1, "open"), (1, "shut", 0, "shut")))
        told = [
            dead_end(trap), no_return(trap), frozen(trap, 1), never_opened(trap), dead_end(once),
            no_return(Cabinet(1, ())),
        ]
        self.assertEqual(told, [(0,), (0,), (0,), [], None, None])
        told = [
            never_opened(Cabinet(2, ((0, "open", 1, "open"), (1, "open", 0, "open")))),
            dead_end(Cabinet(2, ((0, "open", 1, "open"), (1, "open", 0, "open")))),
        ]
        self.assertEqual(told, [[0, 1], ()])


class TestAgainstAllRows(unittest.TestCase):

    def test_all_functions(self):
        cabinets = [
            Cabinet(1, ()), *two_drawers(), *chosen_cabinets(61, 3, 100, 16), *chosen_cabinets(62, 4, 12, 24),
        ]
        for cabinet in cabinets:
            pulls = slow_pulls(cabinet)
            onward = rows_onward(cabinet)
            first = "s" * cabinet.drawers
            with self.subTest(drawers=cabinet.drawers, bars=cabinet.bars):
                rows = slow_first_rows(cabinet)
                still = [row for end, row in rows.items() if not any(pulls[end])]
                self.assertEqual(dead_end(cabinet), first_of_rows(still))
                lost = [row for row, ends in onward if first not in ends]
                self.assertEqual(no_return(cabinet), first_of_rows(lost))
                for drawer in range(cabinet.drawers):
                    held = [row for row, ends in onward if not moves_somewhere(pulls, ends, drawer)]
                    self.assertEqual(frozen(cabinet, drawer), first_of_rows(held))
                shut = [drawer for drawer in range(cabinet.drawers) if all(end[drawer] == "s" for end in rows)]
                self.assertEqual(never_opened(cabinet), shut)


class TestDeadEnd(unittest.TestCase):

    def test_no_pulls(self):
        self.assertEqual(dead_end(FAST), ())

    def test_longer_rows(self):
        self.assertEqual(dead_end(TRAP), (0,))
        self.assertEqual(dead_end(LATCHES), (0, 1, 2))
        # Drawers 0 and 1 each are opened for good, and 2 then goes no more.
        cabinet = Cabinet(3, (
            *both_ways(0, "shut", 1), *both_ways(1, "shut", 0), (2, "open", 0, "shut"), (2, "shut", 0, "shut"),
        ))
        self.assertEqual(dead_end(cabinet), (0, 1))

    def test_the_least_of_several_rows(self):
        # Whichever drawer is opened stays open, and the other one stays shut.
        cabinet = Cabinet(2, (
            (0, "open", 1, "shut"), (0, "shut", 1, "open"), (1, "open", 0, "shut"), (1, "shut", 0, "open"),
        ))
        self.assertEqual(dead_end(cabinet), (0,))

    def test_the_shortest_row_ahead_of_the_least(self):
        # (0, 1) leads to a dead end, too, but (1,) to another one at once.
        cabinet = Cabinet(2, ((0, "open", 1, "shut"), *both_ways(0, "shut", 1), *both_ways(1, "shut", 0)))
        self.assertEqual(dead_end(cabinet), (1,))

    def test_none(self):
        for cabinet in (FREE, ONE_OPEN, STAIRS, MANY_BARS, Cabinet(1, ()), Cabinet(7, ())):
            self.assertIsNone(dead_end(cabinet))

    def test_a_dead_end_that_is_not_reached(self):
        cabinet = Cabinet(2, (
            (0, "open", 1, "shut"), (0, "shut", 1, "shut"), (1, "open", 0, "shut"), (1, "shut", 0, "shut"),
        ))
        self.assertEqual(can(cabinet, "oo"), [])
        self.assertIsNone(dead_end(cabinet))


class TestNoReturn(unittest.TestCase):

    def test_one_pull(self):
        self.assertEqual(no_return(TRAP), (0,))
        self.assertEqual(no_return(LATCHES), (0,))
        self.assertEqual(no_return(ONCE), (1,))

    def test_longer_rows(self):
        # Drawer 2 stays open for good, and it is opened behind 1 only.
        cabinet = Cabinet(3, ((2, "open", 1, "open"), *both_ways(2, "shut", 1)))
        self.assertEqual(no_return(cabinet), (1, 2))

    def test_none(self):
        for cabinet in (FREE, ONE_OPEN, FAST, STAIRS, MANY_BARS, Cabinet(1, ()), Cabinet(7, ())):
            self.assertIsNone(no_return(cabinet))

    def test_no_row_of_no_pulls(self):
        for cabinet in (*CABINETS, *chosen_cabinets(63, 3, 40, 16)):
            self.assertNotEqual(no_return(cabinet), ())

    def test_a_way_back_by_other_drawers(self):
        # Drawer 0 is shut only while 1 stands open, and 1 is opened only while 2 stands open.
        cabinet = Cabinet(3, ((0, "shut", 1, "open"), (1, "open", 2, "open")))
        self.assertIsNone(no_return(cabinet))
        self.assertEqual(row_between(cabinet, "oss", "sss"), (2, 1, 0, 1, 2))


class TestFrozen(unittest.TestCase):

    def test_a_drawer_that_no_pull_ever_moves(self):
        self.assertEqual(frozen(FAST, 0), ())
        self.assertEqual(frozen(FAST, 1), ())
        cabinet = Cabinet(3, both_ways(1, "open", 0))
        self.assertEqual([frozen(cabinet, drawer) for drawer in range(3)], [None, (), None])

    def test_longer_rows(self):
        self.assertEqual(frozen(TRAP, 0), (0,))
        self.assertEqual(frozen(TRAP, 1), (0,))
        self.assertEqual([frozen(LATCHES, drawer) for drawer in range(3)], [(0,), (0, 1), (0, 1, 2)])
        self.assertEqual(frozen(Cabinet(3, ((2, "open", 1, "open"), *both_ways(2, "shut", 1))), 2), (1, 2))

    def test_others_still_go(self):
        self.assertEqual([frozen(ONCE, 0), frozen(ONCE, 1)], [None, (1,)])

    def test_none(self):
        for cabinet in (FREE, ONE_OPEN, STAIRS, MANY_BARS, Cabinet(1, ()), Cabinet(7, ())):
            for drawer in range(cabinet.drawers):
                self.assertIsNone(frozen(cabinet, drawer))

    def test_the_least_of_several_rows(self):
        # Drawer 2 goes only while 0 and 1 stand shut, and these stay open for good.
        cabinet = Cabinet(3, (
            *both_ways(0, "shut", 1), *both_ways(1, "shut", 0), (2, "open", 0, "shut"), (2, "open", 1, "shut"),
            (2, "shut", 0, "shut"), (2, "shut", 1, "shut"),
        ))
        self.assertEqual(frozen(cabinet, 2), (0,))

    def test_a_drawer_that_cannot_go_at_once(self):
        # Drawer 2 is moved again only behind two more pulls.
        self.assertEqual(can(STAIRS, "sss"), [0])
        self.assertIsNone(frozen(STAIRS, 2))


class TestNeverOpened(unittest.TestCase):

    def test_some(self):
        self.assertEqual(never_opened(FAST), [0, 1])
        self.assertEqual(never_opened(Cabinet(3, both_ways(1, "open", 0))), [1])
        self.assertEqual(never_opened(Cabinet(7, both_ways(6, "open", 0))), [6])
        # Drawer 2 would be opened only while both of the others are.
        cabinet = Cabinet(3, (
            (0, "open", 1, "shut"), (1, "open", 0, "shut"), (2, "open", 0, "open"), (2, "open", 1, "open"),
        ))
        self.assertEqual(never_opened(cabinet), [2])

    def test_none(self):
        for cabinet in (FREE, ONE_OPEN, TRAP, LATCHES, STAIRS, Cabinet(1, ()), Cabinet(7, ())):
            self.assertEqual(never_opened(cabinet), [])


class TestSevenDrawers(unittest.TestCase):

    def test_latches(self):
        bars = []
        for drawer in range(7):
            bars.extend(both_ways(drawer, "shut", (drawer + 1) % 7))
            if drawer:
                bars.append((drawer, "open", drawer - 1, "open"))
        cabinet = Cabinet(7, tuple(sorted(bars)))
        self.assertEqual(dead_end(cabinet), tuple(range(7)))
        self.assertEqual(no_return(cabinet), (0,))
        for drawer in range(7):
            self.assertEqual(frozen(cabinet, drawer), tuple(range(drawer + 1)))
        self.assertIs(right_row(cabinet, "ooooooo", dead_end(cabinet)), True)


class TestWrongArguments(unittest.TestCase):

    def test_bad_drawer(self):
        for value in NO_DRAWERS_OF_TWO:
            with self.subTest(value=value):
                for cabinet in (FREE, FAST, TRAP):
                    self.assertIs(raised_kind(frozen, cabinet, value), BadDrawer)

    def test_a_drawer_of_another_cabinet(self):
        self.assertIs(raised_kind(frozen, Cabinet(1, ()), 1), BadDrawer)
        self.assertIs(raised_kind(frozen, STAIRS, 3), BadDrawer)
        self.assertIs(raised_kind(frozen, Cabinet(7, ()), 7), BadDrawer)

    def test_bad_cabinet_first_of_all(self):
        for value in NO_CABINETS:
            with self.subTest(value=value):
                for function in (dead_end, no_return, never_opened):
                    self.assertIs(raised_kind(function, value), BadCabinet)
                for drawer in (0, 2, None, True):
                    self.assertIs(raised_kind(frozen, value, drawer), BadCabinet)


class TestNothingIsShared(unittest.TestCase):

    def test_returned_lists_are_new(self):
        never_opened(FAST).clear()
        self.assertEqual(never_opened(FAST), [0, 1])
        never_opened(FREE).append(1)
        self.assertEqual(never_opened(FREE), [])

    def test_equal_calls_give_equal_results(self):
        for cabinet in (*CABINETS, TRAP, LATCHES):
            again = Cabinet(cabinet.drawers, cabinet.bars)
            for function in (dead_end, no_return, never_opened):
                self.assertEqual(function(cabinet), function(again))
            for drawer in range(cabinet.drawers):
                self.assertEqual(frozen(cabinet, drawer), frozen(again, drawer))


if __name__ == "__main__":
    unittest.main()

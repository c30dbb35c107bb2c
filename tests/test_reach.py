"""Promises 1 and 4: rows, and the standings that they lead to."""

import itertools
import unittest

from drawerlocks.cabinets import Cabinet
from drawerlocks.errors import BadCabinet, BadPattern, BadStanding
from drawerlocks.reach import farthest, reached, right_row, row_between, row_to
from samples import (
    CABINETS, FAST, FREE, MANY_BARS, NO_CABINETS, NO_PATTERNS_OF_TWO, NO_STANDINGS_OF_TWO, ONE_OPEN, STAIRS,
    raised_kind,
)
from slow import all_patterns, all_standings, slow_end, slow_row, slow_rows, some_cabinets

# Just one of the drawers is opened, and it stays so.
TRAP = Cabinet(2, (
    (0, "open", 1, "shut"), (0, "shut", 1, "open"), (1, "open", 0, "shut"), (1, "shut", 0, "open"),
))


class TestExamples(unittest.TestCase):

    def test_word_for_word(self):
        one_open = Cabinet(2, ((0, "open", 1, "shut"), (1, "open", 0, "shut")))
        told = [
            reached(one_open), row_to(one_open, "?o"), row_to(one_open, "oo"), row_between(one_open, "os", "so"),
            right_row(one_open, "?o", (0, 0, 1)), farthest(one_open),
        ]
        self.assertEqual(told, [["os", "so", "ss"], (1,), None, (0, 1), True, (1, "os")])


class TestAgainstAllRows(unittest.TestCase):

    def test_from_the_first_standing(self):
        for cabinet in some_cabinets():
            rows = slow_rows(cabinet, "s" * cabinet.drawers)
            with self.subTest(drawers=cabinet.drawers, bars=cabinet.bars):
                self.assertEqual(reached(cabinet), sorted(rows))
                most = max(len(row) for row in rows.values())
                self.assertEqual(farthest(cabinet), (most, min(end for end in rows if len(rows[end]) == most)))
                for pattern in all_patterns(cabinet.drawers):
                    row = row_to(cabinet, pattern)
                    self.assertEqual(row, slow_row(rows, pattern))
                    self.assertEqual(right_row(cabinet, pattern, row), row is not None)

    def test_from_any_standing(self):
        for cabinet in some_cabinets():
            if cabinet.drawers > 3:
                continue
            for standing in all_standings(cabinet.drawers):
                rows = slow_rows(cabinet, standing)
                with self.subTest(drawers=cabinet.drawers, bars=cabinet.bars, standing=standing):
                    for pattern in all_patterns(cabinet.drawers):
                        self.assertEqual(row_between(cabinet, standing, pattern), slow_row(rows, pattern))

    def test_right_row_of_all_short_rows(self):
        for cabinet in (FREE, ONE_OPEN, FAST, TRAP, STAIRS, MANY_BARS):
            first = "s" * cabinet.drawers
            for length in range(6):
                for row in itertools.product(range(cabinet.drawers), repeat=length):
                    end = slow_end(cabinet.bars, first, row)
                    for standing in all_standings(cabinet.drawers):
                        self.assertIs(right_row(cabinet, standing, row), end == standing)
                    self.assertIs(right_row(cabinet, "?" * cabinet.drawers, row), end is not None)


class TestReached(unittest.TestCase):

    def test_ordinary(self):
        self.assertEqual(reached(FREE), ["oo", "os", "so", "ss"])
        self.assertEqual(reached(FAST), ["ss"])
        self.assertEqual(reached(TRAP), ["os", "so", "ss"])
        self.assertEqual(reached(Cabinet(1, ())), ["o", "s"])
        self.assertEqual(reached(Cabinet(7, ())), all_standings(7))

    def test_returned_lists_are_new(self):
        reached(ONE_OPEN).append("oo")
        self.assertEqual(reached(ONE_OPEN), ["os", "so", "ss"])
        told = reached(STAIRS)
        told.clear()
        self.assertEqual(row_to(STAIRS, "??o"), (0, 1, 2))
        self.assertEqual(farthest(STAIRS), (5, "sso"))


class TestRowTo(unittest.TestCase):

    def test_the_first_standing_fits(self):
        for cabinet in CABINETS:
            self.assertEqual(row_to(cabinet, "?" * cabinet.drawers), ())
            self.assertEqual(row_to(cabinet, "s" * cabinet.drawers), ())
        self.assertEqual(row_to(FREE, "?s"), ())

    def test_no_reached_standing_fits(self):
        self.assertIsNone(row_to(ONE_OPEN, "oo"))
        self.assertIsNone(row_to(FAST, "?o"))
        self.assertIsNone(row_to(FAST, "o?"))

    def test_the_least_row_of_several(self):
        self.assertEqual(row_to(Cabinet(3, ()), "?oo"), (1, 2))
        self.assertEqual(row_to(Cabinet(3, ()), "ooo"), (0, 1, 2))

    def test_the_shortest_row_ahead_of_the_least(self):
        # Drawer 2 can be opened by (2,), but also by the lesser (0, 2).
        self.assertEqual(row_to(FREE, "?o"), (1,))
        self.assertEqual(row_to(Cabinet(3, ((0, "open", 1, "open"),)), "??o"), (2,))

    def test_pulls_that_are_taken_back(self):
        self.assertEqual(row_to(STAIRS, "so?"), (0, 1, 0))
        self.assertEqual(row_to(STAIRS, "sso"), (0, 1, 0, 2, 1))
        self.assertEqual(row_to(Cabinet(2, ((0, "open", 1, "open"),)), "os"), (1, 0, 1))

    def test_several_standings_at_the_same_number_of_pulls(self):
        # (3, 2, 0, 3, 1) leads to ooos, the lesser standing that fits; but the least row counts, which leads to sooo.
        cabinet = Cabinet(4, (
            (1, "open", 0, "open"), (1, "open", 3, "shut"), (2, "open", 0, "shut"), (2, "open", 3, "open"),
        ))
        self.assertEqual(row_to(cabinet, "ooos"), (3, 2, 0, 3, 1))
        self.assertEqual(row_to(cabinet, "sooo"), (0, 1, 0, 3, 2))
        self.assertEqual(row_to(cabinet, "?oo?"), (0, 1, 0, 3, 2))
        self.assertEqual(row_between(cabinet, "ssss", "?oo?"), (0, 1, 0, 3, 2))

    def test_rows_are_tuples(self):
        self.assertIsInstance(row_to(FREE, "oo"), tuple)
        self.assertIsInstance(row_to(FREE, "ss"), tuple)


class TestRowBetween(unittest.TestCase):

    def test_reached_standings(self):
        self.assertEqual(row_between(ONE_OPEN, "os", "so"), (0, 1))
        self.assertEqual(row_between(ONE_OPEN, "os", "os"), ())
        self.assertIsNone(row_between(TRAP, "os", "ss"))

    def test_not_reached_standings(self):
        self.assertEqual(row_between(ONE_OPEN, "oo", "so"), (0,))
        self.assertEqual(row_between(ONE_OPEN, "oo", "ss"), (0, 1))
        self.assertEqual(row_between(ONE_OPEN, "oo", "oo"), ())
        self.assertEqual(row_between(FAST, "oo", "ss"), (0, 1))
        self.assertEqual(row_between(FAST, "os", "oo"), (1,))
        self.assertEqual(row_between(FAST, "oo", "s?"), (0,))
        self.assertIsNone(row_between(FAST, "ss", "oo"))

    def test_agrees_with_row_to(self):
        for cabinet in (FREE, ONE_OPEN, FAST, TRAP, STAIRS, MANY_BARS):
            for pattern in all_patterns(cabinet.drawers):
                self.assertEqual(row_between(cabinet, "s" * cabinet.drawers, pattern), row_to(cabinet, pattern))


class TestRightRow(unittest.TestCase):

    def test_rows_that_go(self):
        self.assertIs(right_row(ONE_OPEN, "?o", (0, 0, 1)), True)
        self.assertIs(right_row(ONE_OPEN, "so", (1, 1, 0, 0, 1)), True)
        self.assertIs(right_row(STAIRS, "??o", (0, 1, 2)), True)

    def test_rows_that_do_not_go(self):
        self.assertIs(right_row(ONE_OPEN, "??", (0, 1)), False)
        self.assertIs(right_row(FAST, "??", (0,)), False)
        # Only the last pull does not go, and its standing would fit.
        self.assertIs(right_row(ONE_OPEN, "o?", (0, 0, 0, 1)), False)

    def test_rows_that_end_elsewhere(self):
        self.assertIs(right_row(ONE_OPEN, "?o", (0,)), False)
        self.assertIs(right_row(ONE_OPEN, "?o", (1, 1)), False)

    def test_no_pulls(self):
        self.assertIs(right_row(ONE_OPEN, "ss", ()), True)
        self.assertIs(right_row(ONE_OPEN, "?s", ()), True)
        self.assertIs(right_row(ONE_OPEN, "o?", ()), False)

    def test_long_rows(self):
        self.assertIs(right_row(ONE_OPEN, "ss", (0, 0, 1, 1) * 50000), True)
        self.assertIs(right_row(ONE_OPEN, "os", (0, 0, 1, 1) * 50000 + (0,)), True)
        self.assertIs(right_row(ONE_OPEN, "ss", (0, 0, 1, 1) * 50000 + (0,)), False)
        self.assertIs(right_row(ONE_OPEN, "??", (0, 0, 1, 1) * 50000 + (0, 1)), False)

    def test_other_values(self):
        values = (
            None, True, False, 0, 1, "", "0", "01", [], [0], [0, 0, 1], {}, {0: 1}, (True,), (False,), (0, 0, True),
            (False, False, 1), (2,), (-1,), (0, 0, 2), (0, 0, -2), (10 ** 30,), ("0",), ("",), (None,), (0, 0, None),
            ((0,),), ([0],), ({},), (0, {}), ([],), ((),), ((0, 0),), (0, 1, None), (0, 1, [1]),
        )
        for value in values:
            with self.subTest(value=value):
                self.assertIs(right_row(ONE_OPEN, "??", value), False)

    def test_true_in_the_place_of_one(self):
        self.assertIs(right_row(ONE_OPEN, "so", (1,)), True)
        self.assertIs(right_row(ONE_OPEN, "so", (True,)), False)
        self.assertIs(right_row(ONE_OPEN, "so", (1, 1, True)), False)

    def test_a_drawer_from_behind(self):
        self.assertIs(right_row(FREE, "so", (-1,)), False)

    def test_the_value_stays_as_it_is(self):
        value = [0, {1: [2]}]
        right_row(FREE, "??", value)
        right_row(FREE, "??", tuple(value))
        self.assertEqual(value, [0, {1: [2]}])


class TestFarthest(unittest.TestCase):

    def test_ordinary(self):
        self.assertEqual(farthest(FREE), (2, "oo"))
        self.assertEqual(farthest(Cabinet(1, ())), (1, "o"))
        self.assertEqual(farthest(Cabinet(7, ())), (7, "ooooooo"))

    def test_several_equally_far(self):
        self.assertEqual(farthest(ONE_OPEN), (1, "os"))
        self.assertEqual(farthest(TRAP), (1, "os"))
        # Drawer 2 is opened first of all, then one of the others; oso is less than soo.
        cabinet = Cabinet(3, (
            (0, "open", 1, "shut"), (0, "open", 2, "open"), (1, "open", 0, "shut"), (1, "open", 2, "open"),
            (2, "shut", 0, "shut"), (2, "shut", 1, "shut"),
        ))
        self.assertEqual(farthest(cabinet), (2, "oso"))

    def test_no_pull_goes(self):
        self.assertEqual(farthest(FAST), (0, "ss"))


class TestWrongArguments(unittest.TestCase):

    def test_bad_cabinet_first_of_all(self):
        for value in NO_CABINETS:
            with self.subTest(value=value):
                self.assertIs(raised_kind(reached, value), BadCabinet)
                self.assertIs(raised_kind(farthest, value), BadCabinet)
                for pattern in ("??", "", None):
                    self.assertIs(raised_kind(row_to, value, pattern), BadCabinet)
                    self.assertIs(raised_kind(right_row, value, pattern, (0,)), BadCabinet)
                    self.assertIs(raised_kind(right_row, value, pattern, None), BadCabinet)
                    for standing in ("ss", "", None):
                        self.assertIs(raised_kind(row_between, value, standing, pattern), BadCabinet)

    def test_bad_standing_ahead_of_bad_pattern(self):
        for value in NO_STANDINGS_OF_TWO:
            for pattern in ("??", "ss", "s", None, True):
                with self.subTest(value=value, pattern=pattern):
                    self.assertIs(raised_kind(row_between, ONE_OPEN, value, pattern), BadStanding)

    def test_bad_pattern(self):
        for value in NO_PATTERNS_OF_TWO:
            with self.subTest(value=value):
                self.assertIs(raised_kind(row_to, ONE_OPEN, value), BadPattern)
                self.assertIs(raised_kind(row_between, ONE_OPEN, "ss", value), BadPattern)
                self.assertIs(raised_kind(right_row, ONE_OPEN, value, (0,)), BadPattern)
                self.assertIs(raised_kind(right_row, ONE_OPEN, value, ()), BadPattern)
                self.assertIs(raised_kind(right_row, ONE_OPEN, value, None), BadPattern)

    def test_a_pattern_of_another_cabinet(self):
        self.assertIs(raised_kind(row_to, STAIRS, "??"), BadPattern)
        self.assertIs(raised_kind(row_between, STAIRS, "ss", "???"), BadStanding)
        self.assertIs(raised_kind(row_between, STAIRS, "sss", "??"), BadPattern)


class TestEqualCalls(unittest.TestCase):

    def test_equal_calls_give_equal_results(self):
        for cabinet in CABINETS:
            again = Cabinet(cabinet.drawers, cabinet.bars)
            pattern = "?" * (cabinet.drawers - 1) + "o"
            self.assertEqual(reached(cabinet), reached(again))
            self.assertEqual(row_to(cabinet, pattern), row_to(again, pattern))
            self.assertEqual(farthest(cabinet), farthest(again))
            self.assertEqual(cabinet, again)


if __name__ == "__main__":
    unittest.main()

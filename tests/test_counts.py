"""Promise 10: how many rows of pulls there are."""

import functools
import unittest

from drawerlocks.cabinets import Cabinet
from drawerlocks.counts import count_rows, count_to
from drawerlocks.errors import BadCabinet, BadNumber, BadPattern
from samples import (
    CABINETS, FAST, FREE, MANY_BARS, NO_CABINETS, NO_PATTERNS_OF_TWO, ONE_OPEN, STAIRS, raised, raised_kind,
)
from slow import all_patterns, all_rows, all_standings, slow_pulls, some_cabinets

NO_LENGTHS = (-1, 61, 10 ** 30, -10 ** 30, True, False, None, "", "1", "60", (), (1,), [], [1], {}, {1: 1})


def fits(standing, pattern):
    return all(wanted in ("?", sign) for sign, wanted in zip(standing, pattern))


def slow_count(cabinet, length, pattern):
    """The number of rows, by the pulls that go, one behind the other."""
    pulls = slow_pulls(cabinet)

    @functools.cache
    def onward(standing, left):
        if left == 0:
            return int(fits(standing, pattern))
        return sum(onward(beyond, left - 1) for beyond in pulls[standing] if beyond is not None)

    return onward("s" * cabinet.drawers, length)


class TestExamples(unittest.TestCase):

    def test_word_for_word(self):
        one_open = Cabinet(2, ((0, "open", 1, "shut"), (1, "open", 0, "shut")))
        told = [
            count_rows(one_open, 2), count_rows(one_open, 3), count_to(one_open, 3, "?o"),
            count_rows(Cabinet(7, ()), 30) == 7 ** 30,
        ]
        self.assertEqual(told, [2, 4, 2, True])


class TestAgainstAllRows(unittest.TestCase):

    def test_short_rows(self):
        for cabinet in some_cabinets():
            for length in range(5):
                ends = [end for _, end in all_rows(cabinet, length)]
                with self.subTest(drawers=cabinet.drawers, bars=cabinet.bars, length=length):
                    self.assertEqual(count_rows(cabinet, length), len(ends))
                    for pattern in all_patterns(cabinet.drawers):
                        told = sum(fits(end, pattern) for end in ends)
                        self.assertEqual(count_to(cabinet, length, pattern), told)

    def test_long_rows(self):
        for cabinet in (*CABINETS, *some_cabinets()[::9]):
            for length in (13, 59, 60):
                with self.subTest(drawers=cabinet.drawers, bars=cabinet.bars, length=length):
                    anything = "?" * cabinet.drawers
                    self.assertEqual(count_rows(cabinet, length), slow_count(cabinet, length, anything))
                    pattern = "?" * (cabinet.drawers - 1) + "o"
                    self.assertEqual(count_to(cabinet, length, pattern), slow_count(cabinet, length, pattern))


class TestCountRows(unittest.TestCase):

    def test_no_pulls(self):
        for cabinet in CABINETS:
            self.assertEqual(count_rows(cabinet, 0), 1)

    def test_one_pull(self):
        self.assertEqual([count_rows(cabinet, 1) for cabinet in (FREE, ONE_OPEN, FAST, STAIRS)], [2, 2, 0, 1])

    def test_sixty_pulls(self):
        self.assertEqual(count_rows(FREE, 60), 2 ** 60)
        self.assertEqual(count_rows(Cabinet(1, ()), 60), 1)
        self.assertEqual(count_rows(Cabinet(7, ()), 60), 7 ** 60)
        self.assertEqual(count_rows(ONE_OPEN, 60), 2 ** 30)
        self.assertEqual(count_rows(FAST, 60), 0)

    def test_rows_with_an_end(self):
        # Drawer 0 is opened and stays so; 1 cannot be opened.
        stays = Cabinet(2, (
            (0, "shut", 1, "open"), (0, "shut", 1, "shut"), (1, "open", 0, "open"), (1, "open", 0, "shut"),
        ))
        self.assertEqual([count_rows(stays, length) for length in (0, 1, 2, 60)], [1, 1, 0, 0])


class TestCountTo(unittest.TestCase):

    def test_no_pulls(self):
        self.assertEqual([count_to(FREE, 0, pattern) for pattern in ("ss", "??", "s?", "o?", "oo")], [1, 1, 1, 0, 0])

    def test_patterns(self):
        self.assertEqual([count_to(FREE, 2, pattern) for pattern in ("ss", "oo", "so", "s?", "??")], [2, 2, 0, 2, 4])
        self.assertEqual([count_to(ONE_OPEN, 3, pattern) for pattern in ("so", "os", "oo", "?o")], [2, 2, 0, 2])

    def test_standings_that_are_not_reached(self):
        for length in (0, 1, 2, 60):
            self.assertEqual(count_to(ONE_OPEN, length, "oo"), 0)
            self.assertEqual(count_to(FAST, length, "?o"), 0)

    def test_sixty_pulls(self):
        self.assertEqual(count_to(FREE, 60, "ss"), 2 ** 59)
        self.assertEqual(count_to(FREE, 60, "so"), 0)
        self.assertEqual(count_to(Cabinet(7, ()), 60, "?" * 7), 7 ** 60)
        self.assertEqual(count_to(Cabinet(1, ()), 60, "o"), 0)
        self.assertEqual(count_to(Cabinet(1, ()), 60, "s"), 1)

    def test_any_standing_is_the_number_of_rows(self):
        for cabinet in CABINETS:
            for length in (0, 1, 2, 7, 60):
                self.assertEqual(count_to(cabinet, length, "?" * cabinet.drawers), count_rows(cabinet, length))

    def test_a_sign_counts_both_ways(self):
        for length in (3, 8):
            told = [count_to(MANY_BARS, length, pattern) for pattern in ("?o?", "?s?")]
            self.assertEqual(sum(told), count_rows(MANY_BARS, length))
            told = [count_to(MANY_BARS, length, standing) for standing in all_standings(3)]
            self.assertEqual(sum(told), count_rows(MANY_BARS, length))


class TestWrongArguments(unittest.TestCase):

    def test_bad_cabinet_first_of_all(self):
        for value in NO_CABINETS:
            for length in (0, 61, None):
                self.assertIs(raised_kind(count_rows, value, length), BadCabinet)
                for pattern in ("??", "", None):
                    self.assertIs(raised_kind(count_to, value, length, pattern), BadCabinet)

    def test_bad_number(self):
        for value in NO_LENGTHS:
            with self.subTest(value=value):
                error = raised(count_rows, FREE, value)
                self.assertIs(type(error), BadNumber)
                self.assertIs(error.n, value)
                for pattern in ("??", "ss"):
                    error = raised(count_to, FREE, value, pattern)
                    self.assertIs(type(error), BadNumber)
                    self.assertIs(error.n, value)

    def test_bad_number_ahead_of_bad_pattern(self):
        for value in NO_LENGTHS:
            for pattern in NO_PATTERNS_OF_TWO:
                self.assertIs(raised_kind(count_to, FREE, value, pattern), BadNumber)

    def test_bad_pattern(self):
        for pattern in NO_PATTERNS_OF_TWO:
            for length in (0, 1, 60):
                with self.subTest(pattern=pattern):
                    self.assertIs(raised_kind(count_to, FREE, length, pattern), BadPattern)
        self.assertIs(raised_kind(count_to, STAIRS, 1, "??"), BadPattern)


class TestEqualCalls(unittest.TestCase):

    def test_equal_calls_give_equal_results(self):
        for cabinet in CABINETS:
            again = Cabinet(cabinet.drawers, cabinet.bars)
            for length in (0, 5, 60):
                self.assertEqual(count_rows(cabinet, length), count_rows(again, length))


if __name__ == "__main__":
    unittest.main()

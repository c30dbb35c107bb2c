"""Promise 18: how many rows of any length there are, by a rest."""

import random
import unittest

from drawerlocks.cabinets import Cabinet
from drawerlocks.counts import count_rows
from drawerlocks.errors import BadCabinet, BadNumber, TooMany
from drawerlocks.rests import count_rest
from samples import CABINETS, FAST, FREE, MANY_BARS, NO_CABINETS, ONE_OPEN, STAIRS, raised, raised_kind
from slow import all_bars, chosen_cabinets, slow_pulls, some_cabinets, two_drawers

MOST_LENGTH = 10 ** 30
MOST_DIVISOR = 10 ** 9
DIVISORS = (1, 2, 3, 7, 10, 64, 97, 1000, 2 ** 29, 999999937, MOST_DIVISOR - 1, MOST_DIVISOR)
NO_LENGTHS = (
    -1, MOST_LENGTH + 1, 10 ** 60, -MOST_LENGTH, True, False, None, "", "1", "60", (), (1,), [], [1], {}, {1: 1},
)
NO_DIVISORS = (
    0, -1, -7, MOST_DIVISOR + 1, 10 ** 30, -MOST_DIVISOR, True, False, None, "", "1", "7", (), (7,), [], [7], {},
    {7: 7},
)
SMALL = tuple(cabinet for cabinet in CABINETS if cabinet.drawers <= 4)


def counts_onward(pulls, counts, divisor):
    """The rests of the numbers of rows to each standing, of one pull more."""
    longer = {standing: 0 for standing in pulls}
    for standing, many in counts.items():
        for beyond in pulls[standing]:
            if beyond is not None:
                longer[beyond] = (longer[beyond] + many) % divisor
    return longer


def slow_rest(cabinet, length, divisor):
    """The rest, by all shorter rows, or, as soon as their numbers come again, by how often they do so."""
    pulls = slow_pulls(cabinet)
    counts = {standing: 0 for standing in pulls}
    counts["s" * cabinet.drawers] = 1 % divisor
    told, met = [], {}
    for at in range(length + 1):
        key = tuple(sorted(counts.items()))
        if key in met:
            begin = met[key]
            return told[begin + (length - begin) % (at - begin)]
        met[key] = at
        told.append(sum(counts.values()) % divisor)
        counts = counts_onward(pulls, counts, divisor)
    return told[length]


class TestExamples(unittest.TestCase):

    def test_word_for_word(self):
        told = [
            count_rest(Cabinet(2, ()), 10 ** 30, 7), count_rest(Cabinet(1, ()), 5, 10),
            count_rest(Cabinet(2, ()), 0, 1),
        ]
        self.assertEqual(told, [2, 1, 0])


class TestShortRows(unittest.TestCase):

    def test_no_pulls(self):
        for cabinet in SMALL:
            self.assertEqual([count_rest(cabinet, 0, divisor) for divisor in (1, 2, 3, MOST_DIVISOR)], [0, 1, 1, 1])

    def test_against_count_rows(self):
        chosen = random.Random(181)
        for cabinet in (*SMALL, *some_cabinets()[::2], *chosen_cabinets(182, 4, 20, 30)):
            for length in (0, 1, 2, 3, 4, 5, 8, 31, 59, 60):
                divisor = chosen.choice(DIVISORS)
                with self.subTest(drawers=cabinet.drawers, bars=cabinet.bars, length=length, divisor=divisor):
                    self.assertEqual(count_rest(cabinet, length, divisor), count_rows(cabinet, length) % divisor)

    def test_each_length(self):
        for cabinet in (FREE, ONE_OPEN, STAIRS, MANY_BARS, Cabinet(4, ())):
            for length in range(61):
                self.assertEqual(count_rest(cabinet, length, 10 ** 9), count_rows(cabinet, length) % 10 ** 9)

    def test_each_divisor(self):
        many = count_rows(MANY_BARS, 40)
        for divisor in range(1, 200):
            self.assertEqual(count_rest(MANY_BARS, 40, divisor), many % divisor)

    def test_forms(self):
        told = count_rest(FREE, 3, 5)
        self.assertIs(type(told), int)
        self.assertEqual(told, 3)


class TestLongRows(unittest.TestCase):

    def test_some_hundred_pulls(self):
        for cabinet in (*two_drawers()[::17], *chosen_cabinets(183, 3, 10, 12), *chosen_cabinets(184, 4, 5, 20)):
            for length, divisor in ((61, 10 ** 9), (100, 999999937), (255, 7), (256, 10 ** 8), (257, 2)):
                with self.subTest(drawers=cabinet.drawers, bars=cabinet.bars, length=length, divisor=divisor):
                    self.assertEqual(count_rest(cabinet, length, divisor), slow_rest(cabinet, length, divisor))

    def test_free_drawers(self):
        for drawers in range(1, 5):
            for length in (10 ** 3, 10 ** 9 + 7, 10 ** 29 + 1, MOST_LENGTH - 1, MOST_LENGTH):
                for divisor in DIVISORS:
                    told = count_rest(Cabinet(drawers, ()), length, divisor)
                    self.assertEqual(told, pow(drawers, length, divisor))

    def test_one_open(self):
        # Each second pull is one of two, each other one shuts that drawer again.
        for length in (10 ** 12 + 1, 2 ** 64, 2 ** 64 - 1, MOST_LENGTH - 1, MOST_LENGTH):
            for divisor in DIVISORS:
                self.assertEqual(count_rest(ONE_OPEN, length, divisor), pow(2, (length + 1) // 2, divisor))

    def test_numbers_that_come_again(self):
        # By small divisors the numbers of the rows come again soon.
        for cabinet in (STAIRS, MANY_BARS, *chosen_cabinets(185, 3, 12, 8), *chosen_cabinets(186, 4, 4, 24)):
            for length in (10 ** 17 + 3, MOST_LENGTH - 1, MOST_LENGTH):
                for divisor in (1, 2, 3, 4):
                    with self.subTest(drawers=cabinet.drawers, bars=cabinet.bars, length=length, divisor=divisor):
                        self.assertEqual(count_rest(cabinet, length, divisor), slow_rest(cabinet, length, divisor))

    def test_rows_with_an_end(self):
        self.assertEqual(count_rest(FAST, MOST_LENGTH, MOST_DIVISOR), 0)
        stays = Cabinet(3, tuple(bar for bar in all_bars(3) if bar[1] == "shut"))
        told = [count_rest(stays, length, 100) for length in (0, 1, 2, 3, 4, MOST_LENGTH)]
        self.assertEqual(told, [1, 3, 6, 6, 0, 0])

    def test_one_and_two(self):
        for cabinet in SMALL:
            self.assertEqual(count_rest(cabinet, MOST_LENGTH, 1), 0)
        self.assertEqual([count_rest(Cabinet(3, ()), length, 2) for length in (0, 1, MOST_LENGTH)], [1, 1, 1])
        self.assertEqual([count_rest(FREE, length, 2) for length in (0, 1, MOST_LENGTH)], [1, 0, 0])


class TestWrongArguments(unittest.TestCase):

    def check_number(self, cabinet, length, divisor, n):
        with self.subTest(length=length, divisor=divisor):
            error = raised(count_rest, cabinet, length, divisor)
            self.assertIs(type(error), BadNumber)
            self.assertIs(error.n, n)

    def test_bad_cabinet_first_of_all(self):
        for value in NO_CABINETS:
            for length, divisor in ((3, 7), (-1, 7), (None, 0), (3, None)):
                self.assertIs(raised_kind(count_rest, value, length, divisor), BadCabinet)

    def test_too_many_drawers(self):
        for drawers in (5, 6, 7):
            for length in (0, 3, MOST_LENGTH, *NO_LENGTHS):
                for divisor in (1, MOST_DIVISOR, 0, None, "7"):
                    error = raised(count_rest, Cabinet(drawers, ()), length, divisor)
                    self.assertIs(type(error), TooMany)
                    self.assertEqual(error.most, 4)
        self.assertEqual(count_rest(Cabinet(4, ()), 1, 10), 4)

    def test_length(self):
        for value in NO_LENGTHS:
            for divisor in (1, 7, MOST_DIVISOR):
                self.check_number(FREE, value, divisor, value)

    def test_length_ahead_of_divisor(self):
        for value in NO_LENGTHS:
            for divisor in NO_DIVISORS:
                self.check_number(STAIRS, value, divisor, value)

    def test_divisor(self):
        for value in NO_DIVISORS:
            for length in (0, 1, 60, MOST_LENGTH):
                self.check_number(FREE, length, value, value)


class TestEqualCalls(unittest.TestCase):

    def test_equal_calls_give_equal_results(self):
        for cabinet in SMALL:
            again = Cabinet(cabinet.drawers, cabinet.bars)
            for length in (0, 7, MOST_LENGTH):
                self.assertEqual(count_rest(cabinet, length, 1009), count_rest(again, length, 1009))
            self.assertEqual(cabinet, again)

    def test_wrong_values_stay_as_they_are(self):
        wrong = [7]
        self.assertIs(raised(count_rest, FREE, 3, wrong).n, wrong)
        self.assertEqual(wrong, [7])


if __name__ == "__main__":
    unittest.main()

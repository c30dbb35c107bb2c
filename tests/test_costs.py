"""Promise 15: the cheapest rows."""

import random
import unittest

from drawerlocks.cabinets import Cabinet
from drawerlocks.costs import cheapest
from drawerlocks.errors import BadCabinet, BadCosts, BadPattern
from drawerlocks.reach import right_row, row_to
from samples import (
    CABINETS, FAST, FREE, MANY_BARS, NO_CABINETS, NO_PATTERNS_OF_TWO, ONE_OPEN, STAIRS, raised_kind,
)
from slow import all_bars, all_patterns, all_rows, chosen_cabinets, slow_pulls, two_drawers

MOST = 10 ** 30
NO_COSTS_OF_TWO = (
    None, True, False, 0, 1, -1, "", "12", (), (1,), (1, 2, 3), (0, 0, 0), [], [1, 2], [0, 0], {}, {0: 1, 1: 2},
    (-1, 0), (0, -1), (MOST + 1, 0), (0, MOST + 1), (10 ** 60, 1), (-MOST, 0), (True, 1), (1, True), (False, 0),
    (0, False), (True, False), (None, 1), (1, None), ("1", 2), (1, "2"), ("", ""), ((1,), 2), (1, (2,)), ([1], 2),
    (1, [2]), ({}, {}), ((1, 2),), ((), ()), ([1, 2],),
)
COSTS = (0, 0, 0, 1, 1, 2, 3, 5, 7, 100, 10 ** 12, 10 ** 12 + 1, MOST - 1, MOST)

# Drawers 0 and 1 are opened only beside the other one while it is shut, 2 beside 0, and 3 beside 1.
TWO_WAYS = Cabinet(4, ((0, "open", 1, "shut"), (1, "open", 0, "shut"), (2, "open", 0, "open"), (3, "open", 1, "open")))
LONGER_WAY = Cabinet(5, tuple(sorted([*TWO_WAYS.bars, (1, "shut", 4, "open")])))


def fits(standing, pattern):
    return all(wanted in ("?", sign) for sign, wanted in zip(standing, pattern))


def cost_of(costs, row):
    return sum(costs[drawer] for drawer in row)


def first_of_costs(costs, rows):
    """The pair of the least cost, and of the shortest, then least row with it, None if there are none."""
    told = min(((cost_of(costs, row), len(row), row) for row in rows), default=None)
    return None if told is None else (told[0], told[2])


def all_short_rows(cabinet):
    """All rows of so few pulls that they need not come to a standing twice."""
    rows = [all_rows(cabinet, length) for length in range(2 ** cabinet.drawers)]
    return [pair for some in rows for pair in some]


def slow_cheapest(cabinet, costs, pattern):
    """As the words say; of the rows of one length to one standing only the first by cost, then in order, goes on."""
    pulls = slow_pulls(cabinet)
    ends = {"s" * cabinet.drawers: (0, ())}
    found = []
    for length in range(2 ** cabinet.drawers):
        found.extend((cost, length, row) for end, (cost, row) in ends.items() if fits(end, pattern))
        longer = {}
        for end, (cost, row) in ends.items():
            for drawer, beyond in enumerate(pulls[end]):
                if beyond is not None:
                    longer.setdefault(beyond, []).append((cost + costs[drawer], (*row, drawer)))
        ends = {end: min(some) for end, some in longer.items()}
    if not found:
        return None
    cost, _, row = min(found)
    return cost, row


def cabinet_of_two_ways(chosen, drawers):
    """As TWO_WAYS and LONGER_WAY, by other names and with some further bars, and the pattern in question."""
    one, other, third, fourth, *more = chosen.sample(range(drawers), drawers)
    bars = {
        (one, "open", other, "shut"), (other, "open", one, "shut"), (third, "open", one, "open"),
        (fourth, "open", other, "open"), *chosen.sample(all_bars(drawers), chosen.randint(0, 2)),
    }
    if more:
        bars.add((chosen.choice((one, other)), "shut", more[0], "open"))
    pattern = ["o" if drawer in (third, fourth) else "?" for drawer in range(drawers)]
    return Cabinet(drawers, tuple(sorted(bars))), "".join(pattern)


class TestExamples(unittest.TestCase):

    def test_word_for_word(self):
        told = [
            cheapest(Cabinet(2, ()), (5, 7), "o?"), cheapest(Cabinet(2, ()), (5, 7), "oo"),
            cheapest(Cabinet(2, ((0, "open", 1, "open"),)), (5, 7), "o?"),
        ]
        self.assertEqual(told, [(5, (0,)), (12, (0, 1)), (12, (1, 0))])


class TestCheapest(unittest.TestCase):

    def test_a_pattern_that_fits_at_first(self):
        for cabinet in CABINETS:
            for cost in (0, 1, MOST):
                costs = (cost,) * cabinet.drawers
                self.assertEqual(cheapest(cabinet, costs, "s" * cabinet.drawers), (0, ()))
                self.assertEqual(cheapest(cabinet, costs, "?" * cabinet.drawers), (0, ()))

    def test_patterns_that_no_reached_standing_fits(self):
        for costs in ((0, 0), (1, 2), (MOST, MOST)):
            self.assertIsNone(cheapest(ONE_OPEN, costs, "oo"))
            self.assertIsNone(cheapest(FAST, costs, "o?"))
            self.assertIsNone(cheapest(FAST, costs, "?o"))

    def test_rows_of_one_length(self):
        # Either 0 is shut again behind 2, or 1 behind 3.
        self.assertEqual(cheapest(TWO_WAYS, (5, 1, 0, 0), "??oo"), (7, (1, 3, 1, 0, 2)))
        self.assertEqual(cheapest(TWO_WAYS, (1, 5, 0, 0), "??oo"), (7, (0, 2, 0, 1, 3)))
        self.assertEqual(cheapest(TWO_WAYS, (1, 1, 0, 0), "??oo"), (3, (0, 2, 0, 1, 3)))
        self.assertEqual(cheapest(TWO_WAYS, (0, 0, 0, 0), "??oo"), (0, (0, 2, 0, 1, 3)))

    def test_a_longer_row_that_is_cheaper(self):
        # As ahead, but 1 is shut again only beside 4.
        self.assertEqual(row_to(LONGER_WAY, "??oo?"), (0, 2, 0, 1, 3))
        self.assertEqual(cheapest(LONGER_WAY, (10, 1, 1, 1, 1), "??oo?"), (15, (1, 3, 4, 1, 0, 2)))
        self.assertEqual(cheapest(LONGER_WAY, (1, 0, 0, 0, 0), "??oo?"), (1, (1, 3, 4, 1, 0, 2)))
        self.assertEqual(cheapest(LONGER_WAY, (1, 1, 1, 1, 1), "??oo?"), (5, (0, 2, 0, 1, 3)))

    def test_a_longer_row_that_costs_as_much(self):
        for costs, cost in (((2, 1, 1, 1, 1), 7), ((1, 0, 0, 0, 1), 2), ((0, 0, 0, 0, 0), 0), ((2, 2, 0, 0, 0), 6)):
            self.assertEqual(cheapest(LONGER_WAY, costs, "??oo?"), (cost, (0, 2, 0, 1, 3)))

    def test_the_shortest_row_ahead_of_the_least(self):
        # Here it is 0 that is shut again only beside 4: the longer row would be less.
        bars = [bar for bar in LONGER_WAY.bars if bar != (1, "shut", 4, "open")]
        cabinet = Cabinet(5, tuple(sorted([*bars, (0, "shut", 4, "open")])))
        self.assertIs(right_row(cabinet, "??oo?", (0, 2, 4, 0, 1, 3)), True)
        for costs, cost in (((0, 0, 0, 0, 0), 0), ((1, 2, 1, 1, 1), 7), ((0, 1, 0, 0, 1), 2)):
            self.assertEqual(cheapest(cabinet, costs, "??oo?"), (cost, (1, 3, 1, 0, 2)))
        self.assertEqual(cheapest(cabinet, (0, 1, 0, 0, 0), "??oo?"), (1, (0, 2, 4, 0, 1, 3)))

    def test_each_pull_costs(self):
        # A drawer that is pulled twice costs twice.
        cabinet = Cabinet(2, ((1, "open", 0, "open"),))
        self.assertEqual(cheapest(cabinet, (10, 3), "so"), (23, (0, 1, 0)))
        self.assertEqual(cheapest(cabinet, (0, 3), "so"), (3, (0, 1, 0)))

    def test_the_shortest_row_of_one_cost(self):
        # With costs of 0 rows may be longer without being dearer: the shortest counts.
        for cabinet in (*CABINETS, *chosen_cabinets(151, 4, 20, 12)):
            costs = (0,) * cabinet.drawers
            for pattern in all_patterns(cabinet.drawers)[::7]:
                row = row_to(cabinet, pattern)
                told = None if row is None else (0, row)
                self.assertEqual(cheapest(cabinet, costs, pattern), told)

    def test_the_least_row_of_one_cost_and_length(self):
        self.assertEqual(cheapest(FREE, (4, 4), "oo"), (8, (0, 1)))
        self.assertEqual(cheapest(FREE, (0, 9), "oo"), (9, (0, 1)))
        self.assertEqual(cheapest(FREE, (9, 0), "oo"), (9, (0, 1)))
        self.assertEqual(cheapest(Cabinet(3, ()), (1, 1, 1), "?oo"), (2, (1, 2)))
        self.assertEqual(cheapest(Cabinet(7, ()), (3,) * 7, "ooooooo"), (21, (0, 1, 2, 3, 4, 5, 6)))

    def test_great_costs(self):
        self.assertEqual(cheapest(FREE, (MOST, MOST), "oo"), (2 * MOST, (0, 1)))
        self.assertEqual(cheapest(FREE, (MOST, MOST - 1), "?o"), (MOST - 1, (1,)))
        self.assertEqual(cheapest(STAIRS, (MOST, MOST - 1, 1), "s?o"), (3 * MOST, (0, 1, 0, 2)))
        self.assertEqual(cheapest(Cabinet(7, ()), (MOST,) * 7, "o" * 7), (7 * MOST, (0, 1, 2, 3, 4, 5, 6)))
        self.assertEqual(cheapest(Cabinet(1, ()), (MOST,), "o"), (MOST, (0,)))
        # Great numbers are told apart by their last digit.
        self.assertEqual(cheapest(TWO_WAYS, (MOST, MOST - 1, 0, 0), "??oo"), (3 * MOST - 2, (1, 3, 1, 0, 2)))
        self.assertEqual(cheapest(TWO_WAYS, (MOST - 1, MOST, 0, 0), "??oo"), (3 * MOST - 2, (0, 2, 0, 1, 3)))
        self.assertEqual(cheapest(LONGER_WAY, (MOST, 0, 0, 0, MOST - 1), "??oo?")[1], (1, 3, 4, 1, 0, 2))
        self.assertEqual(cheapest(LONGER_WAY, (MOST, 0, 0, 0, MOST), "??oo?"), (2 * MOST, (0, 2, 0, 1, 3)))

    def test_forms(self):
        told = cheapest(STAIRS, (1, 2, 3), "??o")
        self.assertIsInstance(told, tuple)
        self.assertIsInstance(told[1], tuple)
        self.assertEqual(told, (6, (0, 1, 2)))


class TestAgainstAllRows(unittest.TestCase):

    def test_all_rows_of_few_drawers(self):
        chosen = random.Random(152)
        for cabinet in (Cabinet(1, ()), *two_drawers()[::3], *chosen_cabinets(153, 3, 12, 14), MANY_BARS, STAIRS):
            rows = all_short_rows(cabinet)
            for _ in range(3):
                costs = tuple(chosen.choice(COSTS) for _ in range(cabinet.drawers))
                for pattern in all_patterns(cabinet.drawers)[::2]:
                    with self.subTest(bars=cabinet.bars, costs=costs, pattern=pattern):
                        told = first_of_costs(costs, [row for row, end in rows if fits(end, pattern)])
                        self.assertEqual(cheapest(cabinet, costs, pattern), told)
                        self.assertEqual(slow_cheapest(cabinet, costs, pattern), told)

    def test_more_drawers(self):
        chosen = random.Random(154)
        cabinets = [
            *two_drawers(), *chosen_cabinets(155, 3, 60, 16), *chosen_cabinets(156, 4, 40, 24),
            *chosen_cabinets(157, 5, 8, 30),
        ]
        for cabinet in cabinets:
            for _ in range(2):
                costs = tuple(chosen.choice(COSTS) for _ in range(cabinet.drawers))
                for pattern in chosen.sample(all_patterns(cabinet.drawers), 4):
                    with self.subTest(drawers=cabinet.drawers, bars=cabinet.bars, costs=costs, pattern=pattern):
                        self.assertEqual(
                            cheapest(cabinet, costs, pattern), slow_cheapest(cabinet, costs, pattern),
                        )

    def test_several_ways(self):
        chosen = random.Random(160)
        others, longer = 0, 0
        for drawers in (4, 5) * 60:
            cabinet, pattern = cabinet_of_two_ways(chosen, drawers)
            costs = tuple(chosen.choice(COSTS) for _ in range(drawers))
            with self.subTest(drawers=drawers, bars=cabinet.bars, costs=costs, pattern=pattern):
                told = cheapest(cabinet, costs, pattern)
                self.assertEqual(told, slow_cheapest(cabinet, costs, pattern))
                if told is not None and told[1] != row_to(cabinet, pattern):
                    others += 1
                    longer += len(told[1]) > len(row_to(cabinet, pattern))
        # These differ from what row_to tells.
        self.assertGreater(others, 20)
        self.assertGreater(longer, 8)

    def test_seven_drawers_by_what_must_hold(self):
        chosen = random.Random(158)
        for cabinet in chosen_cabinets(159, 7, 12, 50):
            costs = tuple(chosen.choice(COSTS) for _ in range(7))
            for pattern in ("oo?????", "??????o", "?s?o?o?", "ooooooo"):
                told = cheapest(cabinet, costs, pattern)
                row = row_to(cabinet, pattern)
                self.assertEqual(told is None, row is None)
                if told is not None:
                    self.assertIs(right_row(cabinet, pattern, told[1]), True)
                    self.assertEqual(told[0], cost_of(costs, told[1]))
                    self.assertLessEqual((told[0], len(told[1]), told[1]), (cost_of(costs, row), len(row), row))


class TestCostsOfOne(unittest.TestCase):

    def test_row_to(self):
        for cabinet in (*CABINETS, *two_drawers()[::5], *chosen_cabinets(160, 4, 20, 20)):
            for pattern in all_patterns(cabinet.drawers)[::4]:
                row = row_to(cabinet, pattern)
                told = cheapest(cabinet, (1,) * cabinet.drawers, pattern)
                self.assertEqual(told, None if row is None else (len(row), row))


class TestWrongArguments(unittest.TestCase):

    def test_bad_cabinet_first_of_all(self):
        for value in NO_CABINETS:
            for costs in ((1, 2), None, (True, 1)):
                for pattern in ("??", "", None):
                    self.assertIs(raised_kind(cheapest, value, costs, pattern), BadCabinet)

    def test_bad_costs_ahead_of_bad_pattern(self):
        for costs in NO_COSTS_OF_TWO:
            for pattern in ("??", "ss", "oo", *NO_PATTERNS_OF_TWO):
                with self.subTest(costs=costs, pattern=pattern):
                    self.assertIs(raised_kind(cheapest, FREE, costs, pattern), BadCosts)

    def test_costs_of_another_cabinet(self):
        for drawers in range(1, 8):
            for many in range(9):
                kind = raised_kind(cheapest, Cabinet(drawers, ()), (1,) * many, "?" * drawers)
                self.assertIs(kind, type(None) if many == drawers else BadCosts)

    def test_each_place_of_a_cost(self):
        for at in range(7):
            for wrong in (-1, MOST + 1, True, None, "1"):
                costs = [0] * 7
                costs[at] = wrong
                self.assertIs(raised_kind(cheapest, Cabinet(7, ()), tuple(costs), "?" * 7), BadCosts)

    def test_the_least_and_the_greatest_cost(self):
        self.assertIs(raised_kind(cheapest, FREE, (0, MOST), "oo"), type(None))
        self.assertEqual(cheapest(FREE, (0, MOST), "oo"), (MOST, (0, 1)))

    def test_bad_pattern(self):
        for pattern in NO_PATTERNS_OF_TWO:
            with self.subTest(pattern=pattern):
                self.assertIs(raised_kind(cheapest, FREE, (1, 2), pattern), BadPattern)


class TestNothingIsShared(unittest.TestCase):

    def test_a_list_that_is_changed_afterwards(self):
        costs = [1, 2]
        told = cheapest(FREE, tuple(costs), "oo")
        self.assertIs(raised_kind(cheapest, FREE, costs, "oo"), BadCosts)
        self.assertEqual(costs, [1, 2])
        costs[0] = 50
        self.assertEqual(told, (3, (0, 1)))
        self.assertEqual(cheapest(FREE, (1, 2), "oo"), told)

    def test_equal_calls_give_equal_results(self):
        for cabinet in CABINETS:
            again = Cabinet(cabinet.drawers, cabinet.bars)
            costs = tuple(range(cabinet.drawers))
            pattern = "?" * (cabinet.drawers - 1) + "o"
            self.assertEqual(cheapest(cabinet, costs, pattern), cheapest(again, costs, pattern))
            self.assertEqual(cabinet, again)


if __name__ == "__main__":
    unittest.main()

"""Promise 16: rows that come back, and the longest ones, if there is an end."""

import random
import unittest

from drawerlocks.cabinets import Cabinet
from drawerlocks.errors import BadCabinet, BadStanding
from drawerlocks.reach import reached, right_row, row_between, row_to
from drawerlocks.rings import first_ring, longest_row, ring_at
from samples import CABINETS, FAST, FREE, MANY_BARS, NO_CABINETS, NO_STANDINGS_OF_TWO, ONE_OPEN, STAIRS, raised_kind
from slow import all_bars, all_standings, chosen_cabinets, slow_end, slow_first_rows, slow_pulls, two_drawers

# Drawers 0 and 1 go round: both are opened, 0 first, and then shut, 0 first.
ROUND = Cabinet(2, ((0, "open", 1, "shut"), (0, "shut", 1, "open"), (1, "open", 0, "open"), (1, "shut", 0, "shut")))
# Drawers that are opened stay open.
STAYS = Cabinet(2, ((0, "shut", 1, "open"), (0, "shut", 1, "shut"), (1, "shut", 0, "open"), (1, "shut", 0, "shut")))


def staying(drawers, some, bars=()):
    """A cabinet with these bars, in which those of some that are opened stay open."""
    stays = [bar for bar in all_bars(drawers) if bar[0] in some and bar[1] == "shut"]
    return Cabinet(drawers, tuple(sorted({*stays, *bars})))


def staying_cabinets(seed, drawers, times):
    """Cabinets in which most drawers that are opened stay open."""
    chosen = random.Random(seed)
    for _ in range(times):
        some = chosen.sample(range(drawers), chosen.choice((drawers, drawers, drawers - 1)))
        yield staying(drawers, some, chosen.sample(all_bars(drawers), chosen.randint(0, 2 * drawers)))


def turning_cabinets(seed, drawers, times):
    """Cabinets in which hardly a drawer can be pulled back at once."""
    chosen = random.Random(seed)
    for _ in range(times):
        bars = set(chosen.sample(all_bars(drawers), chosen.randint(0, 2)))
        for drawer in range(drawers):
            if chosen.random() < 0.95:
                other = chosen.choice([other for other in range(drawers) if other != drawer])
                stands = chosen.sample(("open", "shut"), 2)
                bars.update({(drawer, "open", other, stands[0]), (drawer, "shut", other, stands[1])})
        yield Cabinet(drawers, tuple(sorted(bars)))


def has_few_rows(cabinet):
    """Whether so few pulls go that all rows without a standing twice can be tried."""
    going = [beyond for pulls in slow_pulls(cabinet).values() for beyond in pulls if beyond is not None]
    return len(going) <= 2 * 2 ** cabinet.drawers


def cabinets_to_try():
    yield from (Cabinet(1, ()), *two_drawers(), ROUND, STAYS, STAIRS, MANY_BARS)
    yield from chosen_cabinets(161, 3, 80, 18)
    yield from turning_cabinets(162, 3, 60)
    for drawers, times in ((3, 30), (4, 40), (5, 25)):
        yield from staying_cabinets(163 + drawers, drawers, times)
    for drawers, times in ((4, 60), (5, 40)):
        yield from filter(has_few_rows, turning_cabinets(170 + drawers, drawers, times))
        yield from filter(has_few_rows, chosen_cabinets(180 + drawers, drawers, times, 12 * drawers))


def slow_ring(pulls, standing):
    """The first ring of all rows, by length, then in ascending order."""
    rows = [((), standing, {standing})]
    while rows:
        # A shortest ring comes to no standing twice, its end apart.
        longer = [
            (row + (drawer,), beyond, met) for row, end, met in rows for drawer, beyond in enumerate(pulls[end])
            if beyond is not None and (beyond == standing or beyond not in met)
        ]
        rings = [row for row, end, _ in longer if end == standing]
        if rings:
            return min(rings)
        rows = [(row, end, met | {end}) for row, end, met in longer]
    return None


def slow_longest_row(cabinet):
    """The first of the longest rows, None if some row comes to a standing twice: then it can come there ever again."""
    pulls = slow_pulls(cabinet)
    longest = ()
    rows = [((), ("s" * cabinet.drawers,))]
    while rows:
        row, met = rows.pop()
        if (-len(row), row) < (-len(longest), longest):
            longest = row
        for drawer, beyond in enumerate(pulls[met[-1]]):
            if beyond in met:
                return None
            if beyond is not None:
                rows.append((row + (drawer,), met + (beyond,)))
    return len(longest), longest


class TestExamples(unittest.TestCase):

    def test_word_for_word(self):
        stays = Cabinet(2, (
            (0, "shut", 1, "open"), (0, "shut", 1, "shut"), (1, "shut", 0, "open"), (1, "shut", 0, "shut"),
        ))
        told = [
            ring_at(Cabinet(1, ()), "s"), first_ring(Cabinet(1, ())), longest_row(Cabinet(1, ())), first_ring(stays),
            longest_row(stays),
        ]
        self.assertEqual(told, [(0, 0), ((), (0, 0)), None, None, (2, (0, 1))])


class TestAgainstAllRows(unittest.TestCase):

    def test_rings(self):
        lengths, later = {}, 0
        for cabinet in cabinets_to_try():
            pulls = slow_pulls(cabinet)
            rings = {standing: slow_ring(pulls, standing) for standing in pulls}
            with self.subTest(drawers=cabinet.drawers, bars=cabinet.bars):
                self.assertEqual({standing: ring_at(cabinet, standing) for standing in pulls}, rings)
                found = [
                    (len(rings[end]), len(row), row, rings[end]) for end, row in slow_first_rows(cabinet).items()
                    if rings[end] is not None
                ]
                told = min(found)[2:] if found else None
                self.assertEqual(first_ring(cabinet), told)
            for ring in rings.values():
                many = None if ring is None else len(ring)
                lengths[many] = lengths.get(many, 0) + 1
            later += told is not None and told[0] != ()
        for many in (None, 2, 4, 6, 8):
            self.assertGreater(lengths[many], 10, lengths)
        self.assertGreater(later, 10)

    def test_longest_row(self):
        lengths, endless = {}, 0
        for cabinet in cabinets_to_try():
            told = slow_longest_row(cabinet)
            with self.subTest(drawers=cabinet.drawers, bars=cabinet.bars):
                self.assertEqual(longest_row(cabinet), told)
                self.assertEqual(first_ring(cabinet) is None, told is not None)
            if told is None:
                endless += 1
            else:
                more = told[0] - cabinet.drawers
                lengths[more] = lengths.get(more, 0) + 1
        self.assertGreater(endless, 100)
        # Some have more pulls than there are drawers.
        for more in (-2, -1, 0, 1):
            self.assertGreater(lengths[more], 4, lengths)


class TestRingAt(unittest.TestCase):

    def test_there_and_back(self):
        for standing in all_standings(2):
            self.assertEqual(ring_at(FREE, standing), (0, 0))
        self.assertEqual(ring_at(ONE_OPEN, "so"), (1, 1))
        self.assertEqual(ring_at(Cabinet(1, ()), "o"), (0, 0))
        self.assertEqual(ring_at(Cabinet(7, ()), "ososoos"), (0, 0))
        self.assertEqual(ring_at(STAIRS, "sss"), (0, 0))

    def test_the_least_of_equally_short_ones(self):
        self.assertEqual(ring_at(STAIRS, "oss"), (0, 0))
        # Drawer 0 stays open: 1 and 2 go there and back.
        self.assertEqual(ring_at(staying(3, (0,)), "sss"), (1, 1))
        self.assertEqual(ring_at(staying(3, (0, 1)), "oos"), (2, 2))

    def test_longer_rings(self):
        for standing, ring in (("ss", (0, 1, 0, 1)), ("os", (1, 0, 1, 0)), ("oo", (0, 1, 0, 1)), ("so", (1, 0, 1, 0))):
            self.assertEqual(ring_at(ROUND, standing), ring)
        # A third drawer that goes at any time is shorter.
        cabinet = Cabinet(3, ROUND.bars)
        self.assertEqual([ring_at(cabinet, standing) for standing in ("sss", "oos", "sso")], [(2, 2)] * 3)

    def test_the_shortest_ahead_of_the_least(self):
        cabinet = Cabinet(3, ROUND.bars)
        self.assertEqual(slow_end(cabinet.bars, "sss", (0, 1, 0, 1)), "sss")
        self.assertEqual(ring_at(cabinet, "sss"), (2, 2))

    def test_standings_that_are_not_reached(self):
        self.assertNotIn("oo", reached(ONE_OPEN))
        self.assertIsNone(ring_at(ONE_OPEN, "oo"))
        self.assertEqual(reached(FAST), ["ss"])
        self.assertEqual(ring_at(FAST, "oo"), (0, 0))
        self.assertEqual(ring_at(FAST, "so"), (0, 0))

    def test_none(self):
        for standing in all_standings(2):
            self.assertIsNone(ring_at(STAYS, standing))
        self.assertIsNone(ring_at(FAST, "ss"))
        # Rows go on for ever, but none back: 0 stays open, and 1 goes only then.
        cabinet = staying(2, (0,), [(1, "open", 0, "open")])
        self.assertIsNone(ring_at(cabinet, "ss"))
        self.assertEqual(ring_at(cabinet, "os"), (1, 1))

    def test_a_ring_leads_back(self):
        told = 0
        for cabinet in chosen_cabinets(164, 7, 6, 120):
            for standing in all_standings(7)[::5]:
                ring = ring_at(cabinet, standing)
                if ring is not None:
                    told += 1
                    self.assertEqual(slow_end(cabinet.bars, standing, ring), standing)
                    self.assertEqual(len(ring) % 2, 0)
                    self.assertGreater(len(ring), 0)
                else:
                    for beyond in (slow_end(cabinet.bars, standing, (drawer,)) for drawer in range(7)):
                        if beyond is not None:
                            self.assertIsNone(row_between(cabinet, beyond, standing))
        self.assertGreater(told, 20)


class TestFirstRing(unittest.TestCase):

    def test_at_the_first_standing(self):
        for cabinet in (FREE, ONE_OPEN, STAIRS, MANY_BARS, Cabinet(7, ())):
            self.assertEqual(first_ring(cabinet), ((), ring_at(cabinet, "s" * cabinet.drawers)))
        self.assertEqual(first_ring(ROUND), ((), (0, 1, 0, 1)))

    def test_behind_some_pulls(self):
        cabinet = staying(2, (0,), [(1, "open", 0, "open")])
        self.assertEqual(first_ring(cabinet), ((0,), (1, 1)))
        cabinet = staying(3, (0, 1), [(1, "open", 0, "open"), (2, "open", 1, "open")])
        self.assertEqual(first_ring(cabinet), ((0, 1), (2, 2)))

    def test_the_shortest_ahead_of_the_first(self):
        # At first 0 and 1 go round, but behind (0, 1) drawer 2 goes there and back.
        cabinet = Cabinet(3, tuple(sorted([*ROUND.bars, (2, "open", 0, "open"), (2, "open", 1, "open")])))
        self.assertEqual(ring_at(cabinet, "sss"), (0, 1, 0, 1))
        self.assertEqual(first_ring(cabinet), ((0, 1), (2, 2)))

    def test_the_standing_to_which_the_shortest_then_least_row_leads(self):
        # 0 or 1 stays open, then 2 goes beside 1, and 3 beside 0, too.
        both = [(0, "open", 1, "shut"), (1, "open", 0, "shut")]
        cabinet = staying(4, (0, 1), [*both, (2, "open", 1, "open"), (3, "open", 0, "open")])
        self.assertEqual(first_ring(cabinet), ((0,), (3, 3)))
        cabinet = staying(4, (0, 1), [*both, (2, "open", 1, "open"), (3, "open", 1, "open")])
        self.assertEqual(first_ring(cabinet), ((1,), (2, 2)))

    def test_rings_of_standings_that_are_not_reached_do_not_count(self):
        self.assertIsNotNone(ring_at(FAST, "oo"))
        self.assertIsNone(first_ring(FAST))

    def test_none(self):
        for cabinet in (STAYS, FAST, staying(7, range(7)), staying(2, (0, 1))):
            self.assertIsNone(first_ring(cabinet))

    def test_the_row_leads_to_where_the_ring_begins(self):
        for cabinet in (*chosen_cabinets(165, 7, 8, 100), *turning_cabinets(166, 6, 8)):
            told = first_ring(cabinet)
            if told is not None:
                row, ring = told
                end = slow_end(cabinet.bars, "s" * cabinet.drawers, row)
                self.assertEqual(row_to(cabinet, end), row)
                self.assertEqual(ring_at(cabinet, end), ring)
                for standing in reached(cabinet):
                    other = ring_at(cabinet, standing)
                    self.assertTrue(other is None or len(other) >= len(ring))


class TestLongestRow(unittest.TestCase):

    def test_no_pull_goes_at_first(self):
        self.assertEqual(longest_row(FAST), (0, ()))

    def test_longer_rows(self):
        for drawers in range(2, 8):
            self.assertEqual(longest_row(staying(drawers, range(drawers))), (drawers, tuple(range(drawers))))
        self.assertEqual(longest_row(staying(2, (0, 1), [(0, "open", 1, "open")])), (2, (1, 0)))
        self.assertEqual(longest_row(staying(2, (0, 1), [(0, "open", 1, "open"), (0, "open", 1, "shut")])), (1, (1,)))

    def test_more_pulls_than_drawers(self):
        # 0 is opened, and shut again beside 1, which stays open.
        cabinet = staying(2, (1,), [(0, "open", 1, "shut"), (0, "shut", 1, "open"), (1, "open", 0, "open")])
        self.assertEqual(longest_row(cabinet), (3, (0, 1, 0)))

    def test_the_least_of_the_longest_ones(self):
        both = [(0, "open", 1, "shut"), (1, "open", 0, "shut")]
        self.assertEqual(longest_row(staying(2, (0, 1), both)), (1, (0,)))
        self.assertEqual(longest_row(staying(3, (0, 1, 2), both)), (2, (0, 2)))

    def test_the_longest_ahead_of_the_least(self):
        both = [(0, "open", 1, "shut"), (1, "open", 0, "shut"), (2, "open", 0, "shut")]
        self.assertEqual(longest_row(staying(3, (0, 1, 2), both)), (2, (1, 2)))
        # Also where a later pull must wait: 0 goes at first, but no other one behind it.
        bars = [(1, "open", 0, "shut"), (2, "open", 0, "shut")]
        self.assertEqual(longest_row(staying(3, (0, 1, 2), bars)), (3, (1, 2, 0)))

    def test_none_just_if_there_is_a_ring(self):
        for cabinet in (FREE, ONE_OPEN, STAIRS, MANY_BARS, ROUND, Cabinet(1, ()), Cabinet(7, ())):
            self.assertIsNone(longest_row(cabinet))
        # One drawer alone goes there and back, and only behind all others.
        bars = [(drawer, "open", drawer - 1, "open") for drawer in range(1, 7)]
        self.assertIsNone(longest_row(staying(7, range(6), bars)))
        self.assertEqual(longest_row(staying(7, range(7), bars)), (7, (0, 1, 2, 3, 4, 5, 6)))

    def test_rings_that_are_not_reached(self):
        self.assertEqual(ring_at(FAST, "oo"), (0, 0))
        cabinet = staying(3, (0,), [(1, way, 0, "shut") for way in ("open", "shut")] + [
            (1, "open", 2, "open"), (1, "open", 2, "shut"), (2, "open", 1, "open"), (2, "shut", 1, "open"),
        ])
        self.assertEqual(reached(cabinet), ["oss", "sss"])
        self.assertIsNotNone(ring_at(cabinet, "soo"))
        self.assertEqual(longest_row(cabinet), (1, (0,)))

    def test_seven_drawers_by_what_must_hold(self):
        told = 0
        for cabinet in staying_cabinets(167, 7, 12):
            found = longest_row(cabinet)
            self.assertEqual(found is None, first_ring(cabinet) is not None)
            if found is not None:
                told += 1
                self.assertEqual(found[0], len(found[1]))
                self.assertIs(right_row(cabinet, "???????", found[1]), True)
                self.assertFalse(any(right_row(cabinet, "???????", (*found[1], drawer)) for drawer in range(7)))
        self.assertGreater(told, 3)


class TestWrongArguments(unittest.TestCase):

    def test_bad_cabinet_first_of_all(self):
        for value in NO_CABINETS:
            self.assertIs(raised_kind(first_ring, value), BadCabinet)
            self.assertIs(raised_kind(longest_row, value), BadCabinet)
            for standing in ("ss", "", None, 0):
                self.assertIs(raised_kind(ring_at, value, standing), BadCabinet)

    def test_bad_standing(self):
        for standing in NO_STANDINGS_OF_TWO:
            for cabinet in (FREE, ONE_OPEN, STAYS):
                with self.subTest(standing=standing):
                    self.assertIs(raised_kind(ring_at, cabinet, standing), BadStanding)
        for drawers in range(1, 8):
            for many in range(9):
                kind = raised_kind(ring_at, Cabinet(drawers, ()), "o" * many)
                self.assertIs(kind, type(None) if many == drawers else BadStanding)


class TestEqualCalls(unittest.TestCase):

    def test_equal_calls_give_equal_results(self):
        for cabinet in (*CABINETS, ROUND, STAYS):
            again = Cabinet(cabinet.drawers, cabinet.bars)
            first = "s" * cabinet.drawers
            self.assertEqual(ring_at(cabinet, first), ring_at(again, first))
            self.assertEqual(first_ring(cabinet), first_ring(again))
            self.assertEqual(longest_row(cabinet), longest_row(again))
            self.assertEqual(cabinet, again)

    def test_forms(self):
        self.assertIsInstance(ring_at(FREE, "ss"), tuple)
        row, ring = first_ring(FREE)
        self.assertEqual([type(told) for told in (first_ring(FREE), row, ring)], [tuple] * 3)
        self.assertEqual([type(told) for told in (longest_row(STAYS), longest_row(STAYS)[1])], [tuple] * 2)


if __name__ == "__main__":
    unittest.main()

"""Promise 7: cabinets that have the same rows, and bars that are of no use."""

import itertools
import random
import unittest

from drawerlocks.cabinets import Cabinet
from drawerlocks.errors import BadCabinet, Unlike
from drawerlocks.likeness import alike, fewest_bars, first_apart, needless
from drawerlocks.reach import right_row
from samples import CABINETS, FAST, FREE, MANY_BARS, NO_CABINETS, ONE_OPEN, STAIRS, raised_kind
from slow import all_bars, chosen_cabinets, parts_of, slow_end, slow_pulls, two_drawers

# No drawer is ever opened, so the second bar never is the one that matters.
FOLLOWING = Cabinet(2, ((0, "open", 1, "open"), (0, "open", 1, "shut"), (1, "open", 0, "open")))
# No drawer is ever opened, and drawer 0 has two bars against it: each of them is needless, but not both.
THREE = Cabinet(3, ((0, "open", 1, "open"), (0, "open", 2, "open"), (1, "open", 0, "open"), (2, "open", 0, "open")))


def some_bars(cabinet, bars):
    return Cabinet(cabinet.drawers, tuple(bars))


def slow_apart(one, other):
    """The first of all tuples of drawers, by length, that is a row of just one of both."""
    ones, others = slow_pulls(one), slow_pulls(other)
    both = [((), "s" * one.drawers)]
    # A row that visits no standing twice is shorter than this, and no other one is needed to part them.
    for _ in range(2 ** one.drawers):
        for row, end in both:
            for drawer in range(one.drawers):
                if (ones[end][drawer] is None) != (others[end][drawer] is None):
                    return row + (drawer,)
        both = [
            (row + (drawer,), beyond) for row, end in both for drawer, beyond in enumerate(ones[end])
            if beyond is not None
        ]
    return None


def slow_alike(one, other):
    """Whether no pull parts two cabinets in any of the standings that a row of both leads to."""
    ones, others = slow_pulls(one), slow_pulls(other)
    places = ["s" * one.drawers]
    for place in places:
        if ones[place] != others[place]:
            return False
        places.extend([beyond for beyond in ones[place] if beyond is not None and beyond not in places])
    return True


def slow_needless(cabinet):
    return [
        bar for bar in cabinet.bars
        if slow_alike(cabinet, some_bars(cabinet, [own for own in cabinet.bars if own != bar]))
    ]


def slow_fewest(cabinet):
    """The first of all tuples of some of the bars, the small ones first, with which alone it is alike."""
    for bars in parts_of(cabinet.bars):
        if slow_alike(cabinet, some_bars(cabinet, bars)):
            return bars
    return None


class TestExamples(unittest.TestCase):

    def test_word_for_word(self):
        one_open = Cabinet(2, ((0, "open", 1, "shut"), (1, "open", 0, "shut")))
        more = Cabinet(2, ((0, "open", 1, "shut"), (0, "shut", 1, "shut"), (1, "open", 0, "shut")))
        told = [
            alike(one_open, more), first_apart(one_open, Cabinet(2, ())), needless(more), needless(one_open),
            fewest_bars(more) == one_open.bars,
        ]
        self.assertEqual(told, [True, (0, 1), [(0, "shut", 1, "shut")], [], True])


class TestAgainstAllRows(unittest.TestCase):

    def check_pair(self, one, other):
        with self.subTest(drawers=one.drawers, one=one.bars, other=other.bars):
            row = slow_apart(one, other)
            for told in (first_apart(one, other), first_apart(other, one)):
                self.assertEqual(told, row)
            for told in (alike(one, other), alike(other, one)):
                self.assertIs(told, row is None)
            self.assertEqual(slow_alike(one, other), row is None)

    def test_two_drawers(self):
        chosen = random.Random(71)
        cabinets = two_drawers()
        for _ in range(1500):
            self.check_pair(chosen.choice(cabinets), chosen.choice(cabinets))

    def test_three_drawers(self):
        cabinets = chosen_cabinets(72, 3, 40, 10)
        for one, other in zip(cabinets, cabinets[1:]):
            self.check_pair(one, other)

    def test_a_bar_less(self):
        for cabinet in (*chosen_cabinets(73, 3, 25, 8), ONE_OPEN, FAST, STAIRS, MANY_BARS, FOLLOWING, THREE):
            for bar in cabinet.bars:
                self.check_pair(cabinet, some_bars(cabinet, [own for own in cabinet.bars if own != bar]))


class TestAlike(unittest.TestCase):

    def test_with_itself(self):
        for cabinet in (*CABINETS, FOLLOWING, THREE):
            self.assertIs(alike(cabinet, cabinet), True)
            self.assertIs(alike(cabinet, some_bars(cabinet, cabinet.bars)), True)
            self.assertIsNone(first_apart(cabinet, cabinet))

    def test_unlike_bars_with_the_same_rows(self):
        never = Cabinet(2, ((0, "open", 1, "open"), (1, "open", 0, "open")))
        barred = Cabinet(2, (
            (0, "open", 1, "open"), (0, "open", 1, "shut"), (1, "open", 0, "open"), (1, "open", 0, "shut"),
        ))
        self.assertFalse(never == barred)
        self.assertIs(alike(never, barred), True)
        self.assertIsNone(first_apart(never, barred))
        self.assertIs(alike(barred, Cabinet(2, barred.bars + ((1, "shut", 0, "open"),))), True)

    def test_one_bar_more(self):
        for bar in all_bars(2):
            cabinet = Cabinet(2, (bar,))
            self.assertIs(alike(FREE, cabinet), False)
            self.assertIs(alike(cabinet, FREE), False)

    def test_no_bars(self):
        for drawers in range(1, 8):
            self.assertIs(alike(Cabinet(drawers, ()), Cabinet(drawers, ())), True)

    def test_seven_drawers(self):
        chain = Cabinet(7, tuple((drawer, "open", drawer - 1, "open") for drawer in range(1, 7)))
        self.assertIs(alike(chain, Cabinet(7, chain.bars)), True)
        for bar in chain.bars:
            rest = some_bars(chain, [own for own in chain.bars if own != bar])
            self.assertIs(alike(chain, rest), False)
            self.assertEqual(first_apart(chain, rest), (bar[0],))


class TestFirstApart(unittest.TestCase):

    def test_the_least_of_several(self):
        self.assertEqual(first_apart(FREE, FAST), (0,))
        self.assertEqual(first_apart(FREE, ONE_OPEN), (0, 1))
        self.assertEqual(first_apart(Cabinet(3, ()), Cabinet(3, ((2, "open", 1, "open"),))), (2,))
        # Drawers 0 and 2 are apart in sos alone, where (1,) leads.
        one = Cabinet(3, ((0, "open", 1, "shut"),))
        other = Cabinet(3, ((2, "open", 1, "shut"),))
        self.assertEqual(first_apart(one, other), (1, 0))
        self.assertEqual(first_apart(other, one), (1, 0))

    def test_the_shortest_ahead_of_the_least(self):
        # (0, 1) would part them, too.
        self.assertEqual(first_apart(FREE, Cabinet(2, ((1, "open", 0, "shut"),))), (0, 1))
        both = Cabinet(2, ((1, "open", 0, "open"), (1, "open", 0, "shut")))
        self.assertEqual(first_apart(FREE, both), (1,))

    def test_a_row_of_the_one_or_of_the_other(self):
        row = first_apart(ONE_OPEN, FREE)
        self.assertIs(right_row(ONE_OPEN, "??", row), False)
        self.assertIs(right_row(FREE, "??", row), True)
        self.assertEqual(first_apart(FREE, ONE_OPEN), row)
        left, right = Cabinet(2, ((0, "open", 1, "open"),)), Cabinet(2, ((1, "open", 0, "open"),))
        self.assertEqual(first_apart(left, right), (0,))
        self.assertEqual(first_apart(right, left), (0,))

    def test_longer_ones(self):
        # Only ooo tells these apart, and it is reached by three pulls.
        one = Cabinet(3, STAIRS.bars)
        other = Cabinet(3, ((0, "shut", 2, "shut"), *STAIRS.bars))
        self.assertEqual(first_apart(one, other), (0, 1, 2, 0))

    def test_only_the_last_pull_parts_them(self):
        cabinets = [*chosen_cabinets(74, 3, 30, 6), *chosen_cabinets(75, 3, 30, 6)]
        for one, other in zip(cabinets[:30], cabinets[30:]):
            row = first_apart(one, other)
            if row is None:
                continue
            ends = [slow_end(cabinet.bars, "sss", row) for cabinet in (one, other)]
            self.assertEqual(ends.count(None), 1)
            before = [slow_end(cabinet.bars, "sss", row[:-1]) for cabinet in (one, other)]
            self.assertIsNotNone(before[0])
            self.assertEqual(before[0], before[1])


class TestNeedless(unittest.TestCase):

    def test_none(self):
        for cabinet in (FREE, ONE_OPEN, STAIRS, Cabinet(1, ()), Cabinet(7, ())):
            self.assertEqual(needless(cabinet), [])

    def test_some(self):
        more = Cabinet(2, ((0, "open", 1, "shut"), (0, "shut", 1, "shut"), (1, "open", 0, "shut")))
        self.assertEqual(needless(more), [(0, "shut", 1, "shut")])

    def test_each_alone_but_not_both(self):
        self.assertEqual(needless(THREE), [(0, "open", 1, "open"), (0, "open", 2, "open")])
        for bar in needless(THREE):
            rest = some_bars(THREE, [own for own in THREE.bars if own != bar])
            self.assertIs(alike(THREE, rest), True)
            self.assertEqual(needless(rest), [])
        self.assertIs(alike(THREE, some_bars(THREE, THREE.bars[2:])), False)

    def test_a_bar_that_stands_against_no_pull_of_a_reached_standing(self):
        bar = (1, "shut", 0, "open")
        self.assertEqual(needless(Cabinet(2, (*FAST.bars, bar))), [bar])


class TestFewestBars(unittest.TestCase):

    def test_all_are_needed(self):
        for cabinet in (FREE, ONE_OPEN, FAST, STAIRS, Cabinet(1, ()), Cabinet(7, ())):
            self.assertEqual(fewest_bars(cabinet), cabinet.bars)

    def test_the_least_of_several(self):
        self.assertEqual(fewest_bars(THREE), ((0, "open", 1, "open"), (1, "open", 0, "open"), (2, "open", 0, "open")))
        # Drawers 0 and 1 stay shut, so either of the last two bars would keep 2 shut.
        bars = ((0, "open", 1, "open"), (1, "open", 0, "open"), (2, "open", 0, "open"), (2, "open", 1, "open"))
        self.assertEqual(fewest_bars(Cabinet(3, bars)), bars[:3])
        self.assertEqual(needless(Cabinet(3, bars)), list(bars[2:]))

    def test_fewer_ahead_of_lesser(self):
        # The first two bars keep drawer 0 shut, and the third alone does so, too, since 2 is never opened.
        bars = ((0, "open", 1, "open"), (0, "open", 1, "shut"), (0, "open", 2, "open"), (2, "open", 0, "open"))
        cabinet = Cabinet(3, bars)
        self.assertIs(alike(cabinet, some_bars(cabinet, (bars[0], bars[1], bars[3]))), True)
        self.assertEqual(fewest_bars(cabinet), bars[2:])

    def test_against_all_tuples_of_bars(self):
        cabinets = [
            *two_drawers(), *chosen_cabinets(76, 3, 60, 9), *chosen_cabinets(77, 4, 25, 9), FOLLOWING, THREE, MANY_BARS,
        ]
        for cabinet in cabinets:
            with self.subTest(drawers=cabinet.drawers, bars=cabinet.bars):
                self.assertEqual(needless(cabinet), slow_needless(cabinet))
                self.assertEqual(fewest_bars(cabinet), slow_fewest(cabinet))

    def test_bars_of_one_drawer_that_hit_each_other(self):
        # Many bars of one drawer, and standings in which unlike ones of them bar it.
        chosen = random.Random(78)
        for _ in range(12):
            own = [bar for bar in all_bars(4) if bar[:2] == (3, "open")]
            rest = [bar for bar in all_bars(4) if bar[0] < 3]
            bars = sorted(chosen.sample(own, 5) + chosen.sample(rest, 4))
            cabinet = Cabinet(4, tuple(bars))
            with self.subTest(bars=bars):
                self.assertEqual(fewest_bars(cabinet), slow_fewest(cabinet))
                self.assertEqual(needless(cabinet), slow_needless(cabinet))


class TestSevenDrawers(unittest.TestCase):

    def test_all_bars(self):
        cabinet = Cabinet(7, tuple(all_bars(7)))
        # No drawer is ever opened: one bar each is enough for that.
        bars = tuple((drawer, "open", 0 if drawer else 1, "open") for drawer in range(7))
        self.assertEqual(fewest_bars(cabinet), bars)
        self.assertEqual(needless(cabinet), list(cabinet.bars))

    def test_many_bars(self):
        for cabinet in (*chosen_cabinets(79, 7, 6, 25), *chosen_cabinets(80, 7, 2, 120)):
            with self.subTest(bars=cabinet.bars):
                bars = fewest_bars(cabinet)
                self.assertEqual(bars, tuple(sorted(set(bars))))
                self.assertLessEqual(set(bars), set(cabinet.bars))
                self.assertIs(slow_alike(cabinet, Cabinet(7, bars)), True)
                self.assertEqual(needless(Cabinet(7, bars)), [])
                self.assertEqual(needless(cabinet), slow_needless(cabinet))

    def test_a_free_drawer_with_bars_on_all_others(self):
        # The others stand in any way, and in just one of these ways drawer 6 can be opened: all of its bars are needed.
        bars = tuple((6, "open", other, "open" if other % 2 else "shut") for other in range(6))
        self.assertEqual(fewest_bars(Cabinet(7, bars)), bars)
        self.assertEqual(needless(Cabinet(7, bars)), [])
        more = tuple(sorted(bars + ((6, "open", 3, "shut"), (6, "open", 4, "open"))))
        # It is never opened then, by two bars on one drawer alone.
        self.assertEqual(fewest_bars(Cabinet(7, more)), ((6, "open", 3, "open"), (6, "open", 3, "shut")))


class TestWrongArguments(unittest.TestCase):

    def test_bad_cabinet_first_of_all(self):
        for value in NO_CABINETS:
            with self.subTest(value=value):
                for function in (needless, fewest_bars):
                    self.assertIs(raised_kind(function, value), BadCabinet)
                for function in (alike, first_apart):
                    for cabinet in (FREE, STAIRS, value, None):
                        self.assertIs(raised_kind(function, value, cabinet), BadCabinet)
                        self.assertIs(raised_kind(function, cabinet, value), BadCabinet)

    def test_unlike_numbers_of_drawers(self):
        for one, other in itertools.permutations((Cabinet(1, ()), FREE, ONE_OPEN, STAIRS, Cabinet(7, ())), 2):
            if one.drawers != other.drawers:
                self.assertIs(raised_kind(alike, one, other), Unlike)
                self.assertIs(raised_kind(first_apart, one, other), Unlike)
        self.assertIs(raised_kind(alike, Cabinet(2, ONE_OPEN.bars), Cabinet(3, ONE_OPEN.bars)), Unlike)


class TestNothingIsShared(unittest.TestCase):

    def test_returned_lists_are_new(self):
        cabinet = Cabinet(2, (*FAST.bars, (1, "shut", 0, "open")))
        needless(cabinet).clear()
        self.assertEqual(needless(cabinet), [(1, "shut", 0, "open")])
        needless(FREE).append((0, "open", 1, "open"))
        self.assertEqual(needless(FREE), [])
        self.assertIsInstance(fewest_bars(cabinet), tuple)

    def test_equal_calls_give_equal_results(self):
        for cabinet in (*CABINETS, FOLLOWING, THREE):
            again = Cabinet(cabinet.drawers, cabinet.bars)
            self.assertEqual(needless(cabinet), needless(again))
            self.assertEqual(fewest_bars(cabinet), fewest_bars(again))
            self.assertEqual(cabinet, again)


if __name__ == "__main__":
    unittest.main()

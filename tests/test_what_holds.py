"""Promises 13 and 20: what holds of several functions together, over many cabinets, each also with a bar less."""

import random
import unittest

from drawerlocks.cabinets import Cabinet, barring, can
from drawerlocks.costs import cheapest
from drawerlocks.counts import count_rows, count_to
from drawerlocks.forces import force
from drawerlocks.guards import guards
from drawerlocks.likeness import alike, fewest_bars, needless
from drawerlocks.names import keeping, renamed
from drawerlocks.reach import farthest, reached, right_row, row_between, row_to
from drawerlocks.rests import count_rest
from drawerlocks.rings import first_ring, longest_row, ring_at
from drawerlocks.seen import fits_many, stands_after
from drawerlocks.stuck import dead_end, frozen, never_opened, no_return
from drawerlocks.together import most_open, never_together, open_together, paper, right_paper
from samples import CABINETS
from slow import all_patterns, all_rows, all_sets, all_standings, chosen_cabinets, some_cabinets


def with_a_bar_less(cabinet):
    return [
        Cabinet(cabinet.drawers, tuple(own for own in cabinet.bars if own != bar)) for bar in cabinet.bars
    ]


def many_cabinets():
    for cabinet in (*CABINETS, *some_cabinets(), *chosen_cabinets(131, 3, 30, 16), *chosen_cabinets(132, 5, 4, 20)):
        yield cabinet
        yield from with_a_bar_less(cabinet)[:2]


class TestWhatHolds(unittest.TestCase):

    def test_tables_are_there_just_if_open_together_tells_no_row(self):
        for cabinet in many_cabinets():
            for some in all_sets(cabinet.drawers):
                with self.subTest(drawers=cabinet.drawers, bars=cabinet.bars, some=some):
                    table = paper(cabinet, some)
                    row = open_together(cabinet, some)
                    self.assertEqual(table is None, row is not None)
                    self.assertIs(right_paper(cabinet, some, table), row is None)

    def test_behind_a_dead_end_there_is_no_return(self):
        told = 0
        for cabinet in many_cabinets():
            with self.subTest(drawers=cabinet.drawers, bars=cabinet.bars):
                row = dead_end(cabinet)
                if row is not None:
                    told += 1
                    if can(cabinet, "s" * cabinet.drawers):
                        self.assertIsNotNone(no_return(cabinet))
                        self.assertLessEqual(len(no_return(cabinet)), len(row))
                    else:
                        self.assertEqual(row, ())
        self.assertGreater(told, 20)

    def test_with_bars_left_out_all_rows_go_that_went(self):
        for cabinet in (*some_cabinets()[:120], *chosen_cabinets(133, 3, 20, 9)):
            rows = [row for length in range(5) for row, _ in all_rows(cabinet, length)]
            for fewer in (*with_a_bar_less(cabinet), Cabinet(cabinet.drawers, ())):
                self.assertLessEqual(set(reached(cabinet)), set(reached(fewer)))
                for row in rows:
                    self.assertIs(right_row(fewer, "?" * cabinet.drawers, row), True)

    def test_a_cabinet_without_bars(self):
        for drawers in range(1, 8):
            cabinet = Cabinet(drawers, ())
            self.assertEqual(reached(cabinet), all_standings(drawers))
            self.assertEqual(most_open(cabinet), (drawers, tuple(range(drawers))))

    def test_a_bar_that_no_reached_standing_has_against_a_pull_is_needless(self):
        told = 0
        for cabinet in many_cabinets():
            against = [
                bar for standing in reached(cabinet) for drawer in range(cabinet.drawers)
                for bar in barring(cabinet, standing, drawer)
            ]
            for bar in cabinet.bars:
                if bar not in against:
                    told += 1
                    self.assertIn(bar, needless(cabinet))
        self.assertGreater(told, 20)

    def test_fewest_bars_has_no_needless_bars_among_themselves(self):
        for cabinet in many_cabinets():
            with self.subTest(drawers=cabinet.drawers, bars=cabinet.bars):
                fewest = Cabinet(cabinet.drawers, fewest_bars(cabinet))
                self.assertIs(alike(cabinet, fewest), True)
                self.assertEqual(needless(fewest), [])
                self.assertEqual(fewest_bars(fewest), fewest.bars)

    def test_count_rows_is_the_sum_of_count_to_of_all_standings(self):
        for cabinet in many_cabinets():
            for length in (0, 1, 4, 60):
                with self.subTest(drawers=cabinet.drawers, bars=cabinet.bars, length=length):
                    told = [count_to(cabinet, length, standing) for standing in all_standings(cabinet.drawers)]
                    self.assertEqual(count_rows(cabinet, length), sum(told))


def length_of(row):
    return None if row is None else len(row)


def numbers(cabinet, names):
    """What the functions tell by numbers; names are the new drawers' first names, told values go by the first ones."""

    def anew(things):
        return [things[name] for name in names]

    drawers, first = cabinet.drawers, "s" * cabinet.drawers
    pattern = "".join(anew("?o?s?o?"[:drawers]))
    standing = "".join(anew("osoosos"[:drawers]))
    costs = tuple(anew((3, 0, 10 ** 30, 7, 1, 1, 2)[:drawers]))
    drawer = names.index(drawers // 2)
    some = tuple(sorted((names.index(0), names.index(drawers - 1)))) if drawers > 1 else (0,)
    seen = [None, names.index(0), None, None, drawer, None]
    ring, longest, cheap = first_ring(cabinet), longest_row(cabinet), cheapest(cabinet, costs, pattern)
    told = [
        len(can(cabinet, first)), len(barring(cabinet, standing, drawer)), len(reached(cabinet)), farthest(cabinet)[0],
        length_of(row_to(cabinet, pattern)), length_of(row_between(cabinet, standing, pattern)),
        length_of(open_together(cabinet, some)), len(never_together(cabinet)), most_open(cabinet)[0],
        length_of(dead_end(cabinet)), length_of(no_return(cabinet)), length_of(frozen(cabinet, drawer)),
        len(never_opened(cabinet)), len(needless(cabinet)), len(fewest_bars(cabinet)), count_rows(cabinet, 9),
        count_to(cabinet, 9, pattern), force(cabinet, pattern), None if cheap is None else (cheap[0], len(cheap[1])),
        length_of(ring_at(cabinet, standing)), None if ring is None else (len(ring[0]), len(ring[1])),
        None if longest is None else longest[0], fits_many(cabinet, seen), len(stands_after(cabinet, seen)),
        len(keeping(cabinet)),
    ]
    if drawers <= 3:
        told.extend([count_rest(cabinet, 10 ** 30, 997), len(guards(cabinet, [some] if drawers > 1 else [], 1))])
    return told


class TestWhatHoldsFurther(unittest.TestCase):

    def test_force_is_never_less_than_the_number_of_pulls_of_row_to(self):
        more = 0
        for cabinet in many_cabinets():
            for pattern in all_patterns(cabinet.drawers)[::4]:
                needed, row = force(cabinet, pattern), row_to(cabinet, pattern)
                if needed is not None:
                    with self.subTest(drawers=cabinet.drawers, bars=cabinet.bars, pattern=pattern):
                        self.assertIsNotNone(row)
                        self.assertGreaterEqual(needed, len(row))
                        more += needed > len(row)
        self.assertGreater(more, 20)

    def test_if_all_costs_are_one_cheapest_tells_row_to(self):
        for cabinet in many_cabinets():
            for pattern in all_patterns(cabinet.drawers)[::4]:
                with self.subTest(drawers=cabinet.drawers, bars=cabinet.bars, pattern=pattern):
                    row = row_to(cabinet, pattern)
                    told = None if row is None else (len(row), row)
                    self.assertEqual(cheapest(cabinet, (1,) * cabinet.drawers, pattern), told)

    def test_count_rest_is_the_rest_of_count_rows(self):
        for cabinet in many_cabinets():
            if cabinet.drawers <= 4:
                for length, divisor in ((0, 1), (1, 2), (4, 5), (60, 10 ** 9), (59, 997)):
                    with self.subTest(drawers=cabinet.drawers, bars=cabinet.bars, length=length, divisor=divisor):
                        told = count_rows(cabinet, length) % divisor
                        self.assertEqual(count_rest(cabinet, length, divisor), told)

    def test_fits_many_of_nothing_seen_is_count_rows(self):
        for cabinet in many_cabinets():
            for length in (0, 1, 5, 60):
                with self.subTest(drawers=cabinet.drawers, bars=cabinet.bars, length=length):
                    self.assertEqual(fits_many(cabinet, [None] * length), count_rows(cabinet, length))
                    self.assertEqual(fits_many(cabinet, (None,) * length), count_rows(cabinet, length))

    def test_other_names_change_no_numbers(self):
        chosen = random.Random(134)
        more = (*chosen_cabinets(135, 5, 5, 30), *chosen_cabinets(136, 7, 1, 40))
        for cabinet in (*CABINETS, *some_cabinets()[::2], *more):
            names = tuple(range(cabinet.drawers))
            told = numbers(cabinet, names)
            for _ in range(3 if cabinet.drawers < 5 else 1):
                order = tuple(chosen.sample(names, cabinet.drawers))
                with self.subTest(drawers=cabinet.drawers, bars=cabinet.bars, order=order):
                    self.assertEqual(numbers(renamed(cabinet, order), order), told)

    def test_rings_have_an_even_number_of_pulls(self):
        for cabinet in many_cabinets():
            rings = [ring_at(cabinet, standing) for standing in all_standings(cabinet.drawers)]
            found = first_ring(cabinet)
            if found is not None:
                self.assertIn(found[1], rings)
            for ring in rings:
                if ring is not None:
                    with self.subTest(drawers=cabinet.drawers, bars=cabinet.bars, ring=ring):
                        self.assertGreater(len(ring), 0)
                        self.assertEqual(len(ring) % 2, 0)
                        self.assertTrue(all(ring.count(drawer) % 2 == 0 for drawer in ring))


if __name__ == "__main__":
    unittest.main()

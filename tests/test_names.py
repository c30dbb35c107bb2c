"""Promise 19: drawers by other names."""

import itertools
import random
import unittest

from drawerlocks.cabinets import Cabinet, can
from drawerlocks.errors import BadCabinet, BadOrder
from drawerlocks.names import keeping, renamed
from drawerlocks.reach import reached
from samples import CABINETS, FREE, MANY_BARS, NO_CABINETS, ONE_OPEN, STAIRS, raised_kind
from slow import all_bars, chosen_cabinets, some_cabinets, two_drawers

NO_ORDERS_OF_TWO = (
    None, True, False, 0, 1, -1, "", "01", "10", (), (0,), (1,), (0, 1, 2), (1, 0, 2), (0, 0), (1, 1), (0, 1, 0),
    (0, 1, 1), (1, 2), (0, 2), (-1, 0), (0, -1), (0, True), (True, 0), (False, 1), (1, False), (False, True),
    ("0", "1"), (0, "1"), (None, 0), (0, None), ((0,), 1), ((0, 1),), ([0], [1]), ({}, 1), (0, 10 ** 30), [], [0, 1],
    [1, 0], {}, {0: 1, 1: 0}, (0, (1,)), ((0, 1), (1, 0)), (0, [1]),
)


def bars_round(drawers, *steps):
    """Bars that are alike all round: each drawer is opened only while those some steps on are shut."""
    bars = {(drawer, "open", (drawer + step) % drawers, "shut") for drawer in range(drawers) for step in steps}
    return Cabinet(drawers, tuple(sorted(bars)))


def slow_renamed(cabinet, order):
    """The bars between the drawers by their new names: those that lie between them by their old ones."""
    return tuple(
        (drawer, way, other, stand) for drawer, way, other, stand in all_bars(cabinet.drawers)
        if (order[drawer], way, order[other], stand) in cabinet.bars
    )


def turned_back(order):
    """The order by which the drawers have their first names again."""
    return tuple(order.index(drawer) for drawer in range(len(order)))


def named_anew(standing, order):
    return "".join(standing[drawer] for drawer in order)


class TestExamples(unittest.TestCase):

    def test_word_for_word(self):
        told = [
            renamed(Cabinet(3, ((0, "open", 1, "shut"),)), (2, 0, 1)).bars, keeping(Cabinet(2, ())),
            keeping(Cabinet(2, ((0, "open", 1, "shut"),))),
        ]
        self.assertEqual(told, [((1, "open", 2, "shut"),), [(0, 1), (1, 0)], [(0, 1)]])


class TestRenamed(unittest.TestCase):

    def test_the_order_that_changes_nothing(self):
        for cabinet in (*CABINETS, *some_cabinets(), *chosen_cabinets(191, 7, 4, 60)):
            told = renamed(cabinet, tuple(range(cabinet.drawers)))
            self.assertIsInstance(told, Cabinet)
            self.assertEqual(told, cabinet)

    def test_other_orders(self):
        self.assertEqual(renamed(Cabinet(2, ((0, "open", 1, "shut"),)), (1, 0)).bars, ((1, "open", 0, "shut"),))
        # Drawer 2 is the new 0, drawer 0 the new 1, drawer 1 the new 2.
        self.assertEqual(renamed(STAIRS, (2, 0, 1)).bars, ((0, "open", 2, "open"), (2, "open", 1, "open")))
        self.assertEqual(renamed(STAIRS, (1, 2, 0)).bars, ((0, "open", 2, "open"), (1, "open", 0, "open")))
        self.assertEqual(renamed(ONE_OPEN, (1, 0)), ONE_OPEN)
        told = ((0, "open", 1, "shut"), (0, "open", 2, "open"), (2, "shut", 0, "shut"))
        self.assertEqual(renamed(MANY_BARS, (1, 2, 0)).bars, told)

    def test_against_the_bars_by_their_old_names(self):
        for cabinet in (*two_drawers(), *chosen_cabinets(192, 3, 60, 20), *chosen_cabinets(193, 4, 6, 40)):
            for order in itertools.permutations(range(cabinet.drawers)):
                with self.subTest(drawers=cabinet.drawers, bars=cabinet.bars, order=order):
                    told = renamed(cabinet, order)
                    self.assertEqual((told.drawers, told.bars), (cabinet.drawers, slow_renamed(cabinet, order)))

    def test_seven_drawers(self):
        chosen = random.Random(194)
        for cabinet in (*chosen_cabinets(195, 7, 20, 120), Cabinet(7, tuple(all_bars(7))), Cabinet(7, ())):
            order = tuple(chosen.sample(range(7), 7))
            told = renamed(cabinet, order)
            self.assertEqual(told.bars, slow_renamed(cabinet, order))
            self.assertEqual(told.bars, tuple(sorted(set(told.bars))))

    def test_there_and_back(self):
        chosen = random.Random(196)
        for cabinet in (*CABINETS, *some_cabinets(), *chosen_cabinets(197, 6, 10, 50)):
            order = tuple(chosen.sample(range(cabinet.drawers), cabinet.drawers))
            self.assertEqual(renamed(renamed(cabinet, order), turned_back(order)), cabinet)
            self.assertEqual(renamed(renamed(cabinet, turned_back(order)), order), cabinet)

    def test_one_order_behind_the_other(self):
        for cabinet in chosen_cabinets(198, 3, 20, 9):
            for one, other in itertools.product(itertools.permutations(range(3)), repeat=2):
                both = tuple(one[drawer] for drawer in other)
                self.assertEqual(renamed(renamed(cabinet, one), other), renamed(cabinet, both))

    def test_the_same_pulls_go(self):
        for cabinet in chosen_cabinets(199, 4, 12, 16):
            for order in ((3, 0, 2, 1), (1, 2, 3, 0), (1, 0, 3, 2)):
                told = renamed(cabinet, order)
                self.assertEqual(reached(told), sorted(named_anew(standing, order) for standing in reached(cabinet)))
                for standing in reached(cabinet):
                    going = sorted(order.index(drawer) for drawer in can(cabinet, standing))
                    self.assertEqual(can(told, named_anew(standing, order)), going)


class TestKeeping(unittest.TestCase):

    def test_no_bars(self):
        self.assertEqual(keeping(Cabinet(1, ())), [(0,)])
        self.assertEqual(keeping(FREE), [(0, 1), (1, 0)])
        self.assertEqual(
            keeping(Cabinet(3, ())), [(0, 1, 2), (0, 2, 1), (1, 0, 2), (1, 2, 0), (2, 0, 1), (2, 1, 0)],
        )
        for drawers in range(1, 8):
            every = list(itertools.permutations(range(drawers)))
            self.assertEqual(keeping(Cabinet(drawers, ())), every)
            self.assertEqual(every, sorted(every))

    def test_all_bars(self):
        for drawers in (2, 3, 4, 7):
            told = keeping(Cabinet(drawers, tuple(all_bars(drawers))))
            self.assertEqual(told, keeping(Cabinet(drawers, ())))

    def test_one_bar(self):
        self.assertEqual(keeping(Cabinet(2, ((0, "open", 1, "shut"),))), [(0, 1)])
        self.assertEqual(keeping(Cabinet(4, ((3, "open", 1, "shut"),))), [(0, 1, 2, 3), (2, 1, 0, 3)])
        told = keeping(Cabinet(7, ((0, "shut", 6, "open"),)))
        self.assertEqual(len(told), 120)
        self.assertTrue(all((order[0], order[6]) == (0, 6) for order in told))

    def test_bars_there_and_back(self):
        self.assertEqual(keeping(ONE_OPEN), [(0, 1), (1, 0)])
        self.assertEqual(keeping(Cabinet(2, ((0, "open", 1, "shut"), (1, "open", 0, "open")))), [(0, 1)])
        self.assertEqual(keeping(STAIRS), [(0, 1, 2)])

    def test_bars_that_are_alike_all_round(self):
        for drawers in (3, 4, 5, 7):
            turned = [tuple((drawer + step) % drawers for drawer in range(drawers)) for step in range(drawers)]
            self.assertEqual(keeping(bars_round(drawers, 1)), sorted(turned))
            both = {*turned, *[order[::-1] for order in turned]}
            self.assertEqual(keeping(bars_round(drawers, 1, -1)), sorted(both))

    def test_against_renamed(self):
        more = 0
        cabinets = [*two_drawers(), *chosen_cabinets(201, 3, 80, 4), *chosen_cabinets(202, 4, 20, 3), MANY_BARS]
        for cabinet in cabinets:
            every = itertools.permutations(range(cabinet.drawers))
            told = [order for order in every if slow_renamed(cabinet, order) == cabinet.bars]
            with self.subTest(drawers=cabinet.drawers, bars=cabinet.bars):
                self.assertEqual(keeping(cabinet), told)
                for order in told:
                    self.assertEqual(renamed(cabinet, order), cabinet)
            more += 1 < len(told)
        self.assertGreater(more, 20)

    def test_seven_drawers(self):
        cabinet = Cabinet(7, ((0, "open", 1, "shut"), (1, "open", 0, "shut"), (5, "shut", 6, "open")))
        told = keeping(cabinet)
        self.assertEqual(len(told), 2 * 6)
        self.assertEqual(told[0], (0, 1, 2, 3, 4, 5, 6))
        self.assertEqual(told[-1], (1, 0, 4, 3, 2, 5, 6))
        for order in told:
            self.assertEqual(renamed(cabinet, order), cabinet)

    def test_forms(self):
        for cabinet in CABINETS:
            told = keeping(cabinet)
            self.assertIsInstance(told, list)
            self.assertEqual({type(order) for order in told}, {tuple})


class TestWrongArguments(unittest.TestCase):

    def test_bad_cabinet_first_of_all(self):
        for value in NO_CABINETS:
            self.assertIs(raised_kind(keeping, value), BadCabinet)
            for order in ((0, 1), (), None, (0, 0)):
                self.assertIs(raised_kind(renamed, value, order), BadCabinet)

    def test_bad_order(self):
        for order in NO_ORDERS_OF_TWO:
            for cabinet in (FREE, ONE_OPEN):
                with self.subTest(order=order):
                    self.assertIs(raised_kind(renamed, cabinet, order), BadOrder)

    def test_orders_of_another_cabinet(self):
        for drawers in range(1, 8):
            for many in range(9):
                kind = raised_kind(renamed, Cabinet(drawers, ()), tuple(range(many)))
                self.assertIs(kind, type(None) if many == drawers else BadOrder)
            for at in range(drawers):
                order = list(range(drawers))
                for wrong in (drawers, -1, bool(at), None, str(at)):
                    told = tuple(order[:at] + [wrong] + order[at + 1:])
                    self.assertIs(raised_kind(renamed, Cabinet(drawers, ()), told), BadOrder)


class TestNothingIsShared(unittest.TestCase):

    def test_returned_lists_are_new(self):
        for cabinet in (FREE, ONE_OPEN, STAIRS):
            told = keeping(cabinet)
            again = list(told)
            told.clear()
            told.append(None)
            self.assertEqual(keeping(cabinet), again)

    def test_lists_that_are_changed_afterwards(self):
        order = [1, 0]
        told = renamed(ONE_OPEN, tuple(order))
        self.assertIs(raised_kind(renamed, ONE_OPEN, order), BadOrder)
        self.assertEqual(order, [1, 0])
        order.clear()
        self.assertEqual(told, renamed(ONE_OPEN, (1, 0)))

    def test_cabinets_stay_as_they_are(self):
        for cabinet in CABINETS:
            again = Cabinet(cabinet.drawers, cabinet.bars)
            order = tuple(range(cabinet.drawers))[::-1]
            self.assertEqual(renamed(cabinet, order), renamed(again, order))
            self.assertEqual(keeping(cabinet), keeping(again))
            self.assertEqual(cabinet, again)


if __name__ == "__main__":
    unittest.main()

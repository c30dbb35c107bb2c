"""Promise 11: a desk, with undo."""

import random
import unittest

from drawerlocks.cabinets import Cabinet, can
from drawerlocks.desks import Desk
from drawerlocks.errors import BadCabinet, BadDrawer
from drawerlocks.reach import right_row
from samples import CABINETS, FAST, FREE, NO_CABINETS, NO_DRAWERS_OF_TWO, ONE_OPEN, STAIRS, raised_kind
from slow import chosen_cabinets, slow_end, two_drawers

# Drawer 0 cannot be shut any more.
LATCH = Cabinet(2, ((0, "shut", 1, "open"), (0, "shut", 1, "shut")))


def state(desk):
    return desk.cabinet, desk.standing, desk.pulls, len(desk), desk.free()


def pulled(cabinet, row):
    """A desk behind the pulls of a row."""
    desk = Desk(cabinet)
    for drawer in row:
        assert desk.pull(drawer) is True
    return desk


class TestExamples(unittest.TestCase):

    def test_word_for_word(self):
        desk = Desk(Cabinet(2, ((0, "open", 1, "shut"), (1, "open", 0, "shut"))))
        told = [
            desk.pull(0), desk.pull(1), desk.standing, desk.free(), desk.pulls, len(desk), desk.undo(), desk.undo(),
            desk.standing,
        ]
        self.assertEqual(told, [True, False, "os", [0], (0,), 1, True, False, "ss"])


class TestBeginning(unittest.TestCase):

    def test_all_drawers_are_shut(self):
        for cabinet in CABINETS:
            desk = Desk(cabinet)
            first = "s" * cabinet.drawers
            self.assertEqual(state(desk), (cabinet, first, (), 0, can(cabinet, first)))
            self.assertIsInstance(desk.cabinet, Cabinet)
            self.assertIsInstance(desk.pulls, tuple)
            self.assertIsInstance(desk.free(), list)

    def test_bad_cabinet(self):
        for value in (*NO_CABINETS, Cabinet):
            with self.subTest(value=value):
                self.assertIs(raised_kind(Desk, value), BadCabinet)

    def test_properties(self):
        for name in ("cabinet", "standing", "pulls"):
            self.assertIsInstance(vars(Desk)[name], property)
            with self.assertRaises(AttributeError):
                setattr(Desk(FREE), name, None)


class TestPull(unittest.TestCase):

    def test_pulls_that_go(self):
        desk = Desk(STAIRS)
        self.assertIs(desk.pull(0), True)
        self.assertEqual((desk.standing, desk.pulls, desk.free()), ("oss", (0,), [0, 1]))
        self.assertIs(desk.pull(1), True)
        self.assertIs(desk.pull(2), True)
        self.assertEqual((desk.standing, desk.pulls, len(desk)), ("ooo", (0, 1, 2), 3))
        self.assertIs(desk.pull(1), True)
        self.assertEqual((desk.standing, desk.pulls, len(desk)), ("oso", (0, 1, 2, 1), 4))

    def test_pulls_that_do_not_go_change_nothing(self):
        desk = pulled(ONE_OPEN, (1,))
        before = state(desk)
        self.assertIs(desk.pull(0), False)
        self.assertEqual(state(desk), before)
        self.assertEqual(before, (ONE_OPEN, "so", (1,), 1, [1]))
        desk = Desk(FAST)
        for drawer in (0, 1, 0):
            self.assertIs(desk.pull(drawer), False)
        self.assertEqual(state(desk), (FAST, "ss", (), 0, []))

    def test_wrong_drawers_change_nothing(self):
        for cabinet, row in ((ONE_OPEN, (1,)), (FREE, ()), (FAST, ())):
            desk = pulled(cabinet, row)
            before = state(desk)
            for value in NO_DRAWERS_OF_TWO:
                with self.subTest(value=value):
                    self.assertIs(raised_kind(desk.pull, value), BadDrawer)
                    self.assertEqual(state(desk), before)
        self.assertIs(raised_kind(Desk(Cabinet(1, ())).pull, 1), BadDrawer)
        self.assertIs(raised_kind(Desk(Cabinet(7, ())).pull, 7), BadDrawer)

    def test_many_pulls(self):
        desk = Desk(FREE)
        for _ in range(5000):
            desk.pull(0)
            desk.pull(1)
        self.assertEqual((len(desk), desk.standing), (10000, "ss"))
        self.assertEqual(desk.pulls, (0, 1) * 5000)


class TestUndo(unittest.TestCase):

    def test_down_to_the_start_and_once_more(self):
        desk = pulled(STAIRS, (0, 1, 2, 0))
        told = []
        for _ in range(4):
            self.assertIs(desk.undo(), True)
            told.append((desk.standing, desk.pulls, len(desk)))
        self.assertEqual(told, [("ooo", (0, 1, 2), 3), ("oos", (0, 1), 2), ("oss", (0,), 1), ("sss", (), 0)])
        for _ in range(3):
            self.assertIs(desk.undo(), False)
            self.assertEqual(state(desk), (STAIRS, "sss", (), 0, [0]))

    def test_a_pull_that_could_not_be_pulled_back(self):
        desk = pulled(LATCH, (0,))
        self.assertIs(desk.pull(0), False)
        self.assertIs(desk.undo(), True)
        self.assertEqual(state(desk), (LATCH, "ss", (), 0, [0, 1]))

    def test_pulls_that_did_not_go_are_not_undone(self):
        desk = pulled(ONE_OPEN, (1,))
        desk.pull(0)
        self.assertIs(desk.undo(), True)
        self.assertEqual(desk.standing, "ss")
        self.assertIs(desk.undo(), False)

    def test_on_from_there(self):
        desk = pulled(FREE, (0, 1))
        desk.undo()
        self.assertIs(desk.pull(0), True)
        self.assertEqual((desk.standing, desk.pulls), ("ss", (0, 0)))


class TestCopy(unittest.TestCase):

    def test_stands_as_this_one(self):
        for row in ((), (0,), (0, 1, 1)):
            desk = pulled(FREE, row)
            other = desk.copy()
            self.assertIsInstance(other, Desk)
            self.assertIsNot(other, desk)
            self.assertEqual(state(other), state(desk))

    def test_both_go_on_apart_from_each_other(self):
        desk = pulled(FREE, (0,))
        other = desk.copy()
        desk.pull(1)
        self.assertEqual(state(other), (FREE, "os", (0,), 1, [0, 1]))
        other.pull(0)
        self.assertEqual(state(desk), (FREE, "oo", (0, 1), 2, [0, 1]))
        self.assertEqual(state(other), (FREE, "ss", (0, 0), 2, [0, 1]))
        self.assertIs(other.undo(), True)
        self.assertIs(other.undo(), True)
        self.assertIs(other.undo(), False)
        self.assertEqual(desk.pulls, (0, 1))
        third = other.copy()
        third.pull(1)
        self.assertEqual((len(desk), len(other), len(third)), (2, 0, 1))


class TestFree(unittest.TestCase):

    def test_as_can_tells(self):
        for cabinet in two_drawers():
            desk = Desk(cabinet)
            for drawer in (0, 1, 0, 1, 1, 0):
                free = desk.free()
                self.assertEqual(free, can(cabinet, desk.standing))
                self.assertIs(desk.pull(drawer), drawer in free)

    def test_a_list_that_is_changed_afterwards(self):
        desk = Desk(ONE_OPEN)
        desk.free().clear()
        desk.free().append(7)
        self.assertEqual(desk.free(), [0, 1])
        self.assertIs(desk.pull(0), True)
        desk.free().append(1)
        self.assertEqual(desk.free(), [0])
        self.assertIs(desk.pull(1), False)
        self.assertIsNot(desk.free(), desk.free())


class TestCabinet(unittest.TestCase):

    def test_stays_as_it_is(self):
        for cabinet in CABINETS:
            desk = Desk(cabinet)
            again = Cabinet(cabinet.drawers, cabinet.bars)
            desk.pull(0)
            self.assertEqual(desk.cabinet, again)
            desk.undo()
            self.assertEqual(desk.cabinet, again)
            self.assertEqual(cabinet, again)

    def test_two_desks_of_one_cabinet(self):
        one, other = Desk(ONE_OPEN), Desk(ONE_OPEN)
        one.pull(0)
        self.assertEqual(state(other), (ONE_OPEN, "ss", (), 0, [0, 1]))
        self.assertIs(other.pull(1), True)
        self.assertEqual((one.standing, other.standing), ("os", "so"))


class TestAgainstRows(unittest.TestCase):

    def test_many_pulls_and_undos(self):
        chosen = random.Random(111)
        for cabinet in chosen_cabinets(112, 4, 25, 12):
            desk, row = Desk(cabinet), ()
            first = "s" * cabinet.drawers
            for _ in range(60):
                if chosen.random() < 0.3:
                    self.assertIs(desk.undo(), row != ())
                    row = row[:-1]
                else:
                    drawer = chosen.randrange(cabinet.drawers)
                    longer = row + (drawer,)
                    went = slow_end(cabinet.bars, first, longer) is not None
                    self.assertIs(desk.pull(drawer), went)
                    row = longer if went else row
                self.assertEqual((desk.pulls, len(desk)), (row, len(row)))
                self.assertEqual(desk.standing, slow_end(cabinet.bars, first, row))
                self.assertEqual(desk.free(), can(cabinet, desk.standing))
            self.assertIs(right_row(cabinet, desk.standing, desk.pulls), True)


if __name__ == "__main__":
    unittest.main()

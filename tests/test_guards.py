"""Promise 8: the fewest bars to be added so that told pairs never are open together."""

import itertools
import unittest

from drawerlocks.cabinets import Cabinet
from drawerlocks.errors import BadCabinet, BadNumber, BadPairs, TooMany
from drawerlocks.guards import guards
from drawerlocks.stuck import never_opened
from drawerlocks.together import never_together
from samples import FAST, FREE, MANY_BARS, NO_CABINETS, ONE_OPEN, STAIRS, raised, raised_kind
from slow import all_bars, chosen_cabinets, slow_first_rows, two_drawers

BOTH = ((0, "open", 1, "shut"), (1, "open", 0, "shut"))
# No list and no tuple.
NO_PAIRS = (None, True, False, 0, 1, -1, "", "01", {}, {(0, 1): 1}, {0: 1})
# No pairs of two drawers.
NO_PAIR = (
    None, True, False, 0, 1, "", "01", [], [0, 1], {}, {0: 1}, (), (0,), (1,), (0, 1, 2), (0, 1, 1), (0, 2), (2, 3),
    (-1, 0), (-1, 1), (1, 0), (1, 1), (0, 0), (False, 1), (0, True), (False, True), ("0", "1"), (0, "1"), (None, 1),
    (0, None), ((0, 1), 1), ((0, 1),), ([0], [1]), ({}, {}), (0, [1]), (0, 10 ** 30),
)
NO_NUMBERS = (-1, 3, 4, 10 ** 30, -10 ** 30, True, False, None, "", "1", (), (1,), [], [1], {}, {1: 1})


def slow_guards(cabinet, pairs, most):
    """All tuples of the fewest bars that are good, by trying every tuple."""
    spare = [bar for bar in all_bars(cabinet.drawers) if bar not in cabinet.bars]
    for many in range(most + 1):
        found = []
        for added in itertools.combinations(spare, many):
            ends = slow_first_rows(Cabinet(cabinet.drawers, tuple(sorted(cabinet.bars + added))))
            opened = all(any(end[drawer] == "o" for end in ends) for drawer in range(cabinet.drawers))
            if opened and not any(end[one] == end[other] == "o" for end in ends for one, other in pairs):
                found.append(added)
        if found:
            return sorted(found)
    return []


class TestExamples(unittest.TestCase):

    def test_word_for_word(self):
        told = [
            guards(Cabinet(2, ()), [(0, 1)], 2), guards(Cabinet(2, ()), [(0, 1)], 1), guards(Cabinet(2, ()), [], 2),
        ]
        self.assertEqual(told, [[((0, "open", 1, "shut"), (1, "open", 0, "shut"))], [], [()]])


class TestAgainstAllTuples(unittest.TestCase):

    def check_all(self, cabinet, pairs):
        for most in range(3):
            with self.subTest(drawers=cabinet.drawers, bars=cabinet.bars, pairs=pairs, most=most):
                told = guards(cabinet, pairs, most)
                self.assertIsInstance(told, list)
                self.assertEqual(told, slow_guards(cabinet, pairs, most))

    def test_one_drawer(self):
        self.check_all(Cabinet(1, ()), [])

    def test_two_drawers(self):
        for cabinet in two_drawers():
            for pairs in ([], [(0, 1)]):
                self.check_all(cabinet, pairs)

    def test_three_drawers(self):
        cabinets = [Cabinet(3, ()), STAIRS, MANY_BARS, *chosen_cabinets(81, 3, 10, 4)]
        choices = ([(0, 1)], [(0, 2), (1, 2)], [(0, 1), (0, 2), (1, 2)], [(1, 2)])
        for cabinet, pairs in zip(cabinets, itertools.cycle(choices)):
            self.check_all(cabinet, pairs)


class TestMost(unittest.TestCase):

    def test_none_may_be_added(self):
        self.assertEqual(guards(ONE_OPEN, [(0, 1)], 0), [()])
        self.assertEqual(guards(FREE, [(0, 1)], 0), [])
        self.assertEqual(guards(FREE, [], 0), [()])

    def test_one_may_be_added(self):
        # Drawer 1 cannot be opened any more while 0 is: then only 0 must not be opened while 1 is.
        cabinet = Cabinet(2, ((1, "open", 0, "shut"),))
        self.assertEqual(guards(cabinet, [(0, 1)], 0), [])
        self.assertEqual(guards(cabinet, [(0, 1)], 1), [((0, "open", 1, "shut"),)])
        self.assertEqual(guards(cabinet, [(0, 1)], 2), [((0, "open", 1, "shut"),)])
        self.assertEqual(guards(FREE, [(0, 1)], 1), [])

    def test_two_may_be_added(self):
        self.assertEqual(guards(FREE, [(0, 1)], 2), [BOTH])
        self.assertEqual(guards(Cabinet(3, ()), [(0, 1), (0, 2), (1, 2)], 2), [])

    def test_several_tuples_ascend(self):
        self.assertEqual(guards(MANY_BARS, [(1, 2)], 2), [((2, "open", 0, "shut"),), ((2, "open", 1, "shut"),)])
        cabinet = Cabinet(3, ((1, "shut", 2, "shut"), (2, "open", 1, "open")))
        told = [
            ((0, "open", 1, "shut"), (1, "open", 0, "shut")), ((0, "open", 1, "shut"), (2, "open", 0, "shut")),
            ((0, "open", 2, "shut"), (2, "open", 0, "shut")),
        ]
        self.assertEqual(guards(cabinet, [(0, 2)], 2), told)
        self.assertEqual(slow_guards(cabinet, [(0, 2)], 2), told)

    def test_none_can_help(self):
        # Drawer 1 is opened only while 0 is.
        self.assertEqual(guards(STAIRS, [(0, 1)], 2), [])

    def test_four_drawers(self):
        told = guards(Cabinet(4, ()), [(2, 3)], 2)
        self.assertEqual(told, [((2, "open", 3, "shut"), (3, "open", 2, "shut"))])
        self.assertEqual(guards(Cabinet(4, ()), [(0, 1), (2, 3)], 2), [])
        self.assertEqual(guards(Cabinet(4, ()), [], 2), [()])
        cabinet = Cabinet(4, (
            (0, "open", 1, "shut"), (1, "open", 0, "shut"), (2, "open", 3, "shut"),
        ))
        self.assertEqual(guards(cabinet, [(0, 1), (2, 3)], 2), [((3, "open", 2, "shut"),)])


class TestEdges(unittest.TestCase):

    def test_pairs_that_never_are_open_together_already(self):
        self.assertEqual(never_together(ONE_OPEN), [(0, 1)])
        for most in range(3):
            self.assertEqual(guards(ONE_OPEN, [(0, 1)], most), [()])
            # More bars cannot help where a drawer is never opened.
            self.assertEqual(guards(FAST, [(0, 1)], most), [])

    def test_a_drawer_that_is_never_opened(self):
        held = Cabinet(3, ((1, "open", 0, "open"), (1, "open", 0, "shut")))
        self.assertEqual(never_opened(held), [1])
        for pairs in ([], [(0, 1)], [(0, 2)], [(0, 1), (1, 2)]):
            self.assertEqual(guards(held, pairs, 2), [])

    def test_bars_with_which_a_drawer_is_never_opened_do_not_count(self):
        # One bar would keep drawer 1 shut beside the bar that is there.
        cabinet = Cabinet(2, ((1, "open", 0, "open"),))
        self.assertEqual(guards(cabinet, [(0, 1)], 2), [])
        added = Cabinet(2, ((1, "open", 0, "open"), (1, "open", 0, "shut")))
        self.assertEqual(never_together(added), [(0, 1)])

    def test_no_bars_are_added_that_are_there(self):
        for cabinet in chosen_cabinets(82, 3, 12, 6):
            for added in guards(cabinet, [(0, 1)], 2):
                self.assertEqual(set(added) & set(cabinet.bars), set())
                self.assertEqual(added, tuple(sorted(set(added))))

    def test_all_bars_are_there(self):
        cabinet = Cabinet(4, tuple(all_bars(4)))
        self.assertEqual(guards(cabinet, [(0, 1)], 2), [])
        self.assertEqual(guards(Cabinet(1, ()), [], 2), [()])

    def test_no_pairs(self):
        for pairs in ([], ()):
            self.assertEqual(guards(FREE, pairs, 2), [()])
            self.assertEqual(guards(FAST, pairs, 2), [])

    def test_pairs_told_twice_and_in_any_order(self):
        told = guards(STAIRS, [(0, 2), (1, 2)], 2)
        for pairs in ([(1, 2), (0, 2)], [(0, 2), (1, 2), (0, 2)], [(0, 2), (0, 2), (1, 2), (1, 2)]):
            self.assertEqual(guards(STAIRS, pairs, 2), told)
        self.assertEqual(guards(FREE, [(0, 1)] * 1000, 2), [BOTH])

    def test_a_list_and_a_tuple(self):
        for pairs in ([(0, 1)], [(0, 2), (1, 2)], []):
            self.assertEqual(guards(STAIRS, pairs, 2), guards(STAIRS, tuple(pairs), 2))


class TestWrongArguments(unittest.TestCase):

    def check_index(self, cabinet, pairs, most, index):
        with self.subTest(pairs=pairs, most=most):
            error = raised(guards, cabinet, pairs, most)
            self.assertIs(type(error), BadPairs)
            self.assertEqual(error.index, index)
            self.assertIsNot(error.index, False)

    def test_bad_cabinet_first_of_all(self):
        for value in NO_CABINETS:
            for pairs, most in (([(0, 1)], 2), (None, 9), ([None], 0)):
                self.assertIs(raised_kind(guards, value, pairs, most), BadCabinet)

    def test_too_many_drawers(self):
        for drawers in (5, 6, 7):
            for pairs, most in (([(0, 1)], 2), ([], 0), (None, 2), ([None], 2), ([(1, 0)], 9), ([], None), (3, -1)):
                error = raised(guards, Cabinet(drawers, ()), pairs, most)
                self.assertIs(type(error), TooMany)
                self.assertEqual(error.most, 4)
        self.assertIsNone(raised(guards, Cabinet(4, ()), [(0, 3)], 1))

    def test_no_list_and_no_tuple(self):
        for value in NO_PAIRS:
            for most in (2, 0, 3, None):
                self.check_index(FREE, value, most, None)

    def test_no_pair(self):
        for value in NO_PAIR:
            self.check_index(FREE, [value], 2, 0)
            self.check_index(FREE, (value,), 2, 0)
            self.check_index(FREE, [(0, 1), value], 2, 1)
            self.check_index(FREE, ((0, 1), (0, 1), value, None), 2, 2)
            self.check_index(FREE, [value, (0, 1), value], 2, 0)

    def test_pairs_of_another_cabinet(self):
        self.check_index(Cabinet(1, ()), [(0, 1)], 2, 0)
        self.check_index(STAIRS, [(0, 1), (1, 2), (2, 3)], 2, 2)

    def test_a_pair_alone_is_a_tuple_of_no_pairs(self):
        self.check_index(FREE, (0, 1), 2, 0)

    def test_bad_number(self):
        for value in NO_NUMBERS:
            for pairs in ([(0, 1)], [], ()):
                with self.subTest(value=value):
                    error = raised(guards, FREE, pairs, value)
                    self.assertIs(type(error), BadNumber)
                    self.assertIs(error.n, value)

    def test_bad_pairs_ahead_of_bad_number(self):
        for value in NO_NUMBERS:
            self.check_index(FREE, None, value, None)
            self.check_index(FREE, [(0, 1), (1, 0)], value, 1)


class TestNothingIsShared(unittest.TestCase):

    def test_returned_lists_are_new(self):
        guards(FREE, [(0, 1)], 2).clear()
        self.assertEqual(guards(FREE, [(0, 1)], 2), [BOTH])
        guards(FREE, [(0, 1)], 1).append(BOTH)
        self.assertEqual(guards(FREE, [(0, 1)], 1), [])

    def test_arguments_stay_as_they_are(self):
        pairs = [(0, 2), (0, 1), (0, 2)]
        told = guards(STAIRS, pairs, 2)
        self.assertEqual(pairs, [(0, 2), (0, 1), (0, 2)])
        self.assertEqual(guards(STAIRS, pairs, 2), told)
        pairs.clear()
        self.assertEqual(guards(STAIRS, pairs, 2), [()])
        wrong = [(0, 1), [1, 2]]
        self.assertIsNotNone(raised(guards, STAIRS, wrong, 2))
        self.assertEqual(wrong, [(0, 1), [1, 2]])


if __name__ == "__main__":
    unittest.main()

"""Promises 1 to 4 for all functions: the order of errors, new lists, and arguments that stay as they are."""

import copy
import itertools
import unittest

from drawerlocks import (
    cabinets, costs, counts, errors, forces, guards, likeness, names, reach, rests, rings, seen, stuck, texts, together,
    tries,
)
from drawerlocks.cabinets import Cabinet
from drawerlocks.desks import Desk
from samples import (
    CABINETS, NO_CABINETS, NO_DRAWERS_OF_TWO, NO_PATTERNS_OF_TWO, NO_SETS_OF_TWO, NO_STANDINGS_OF_TWO, ONE_OPEN,
    raised_kind,
)

# For each kind of argument one that is right for two drawers, some that are wrong, and the error for these.
KINDS = {
    "cabinet": (ONE_OPEN, NO_CABINETS, errors.BadCabinet),
    "standing": ("os", NO_STANDINGS_OF_TWO, errors.BadStanding),
    "pattern": ("?s", NO_PATTERNS_OF_TWO, errors.BadPattern),
    "drawer": (0, NO_DRAWERS_OF_TWO, errors.BadDrawer),
    "some": ((0, 1), NO_SETS_OF_TWO, errors.BadSet),
    "length": (3, (-1, 61, True, False, None, "1", [1]), errors.BadNumber),
    "pairs": ([(0, 1)], (None, 1, {}, "", [None], [(1, 0)], ((0, 1), (0, 2))), errors.BadPairs),
    "most": (2, (-1, 3, True, None, "1", []), errors.BadNumber),
    "drawers": (2, (0, 8, True, None, "2", [2]), errors.BadDrawers),
    "tries": (
        [("ss", 0, True)], (None, {}, "", [None], [("ss", 0, 1)], [("ss", 0, True)] * 31), errors.BadTries,
    ),
    "costs": (
        (3, 10 ** 30), (None, 1, [3, 4], (3,), (3, 4, 5), (-1, 0), (10 ** 30 + 1, 0), (True, 1)), errors.BadCosts,
    ),
    "text": (
        "drawers 2\nbar 0 open 1 shut", ("", " ", "drawers 2\n", "drawers 8", "drawers 2\nbar 0 open 0 shut"),
        errors.InvalidText,
    ),
    "seen": (
        [None, 0], (None, 0, "", {}, [2], [None, True], (0, -1), [[0]], ("0",), [None] * 61, [2] * 61), errors.BadSeen,
    ),
    "far": (10 ** 30, (-1, 10 ** 30 + 1, True, None, "1", [1]), errors.BadNumber),
    "divisor": (7, (0, -1, 10 ** 9 + 1, True, None, "7", [7]), errors.BadNumber),
    "order": ((1, 0), (None, 1, "10", [1, 0], (1,), (0, 1, 2), (0, 0), (0, True), (1, 2)), errors.BadOrder),
}
FUNCTIONS = (
    (cabinets.can, "cabinet", "standing"),
    (cabinets.barring, "cabinet", "standing", "drawer"),
    (cabinets.behind, "cabinet", "standing", "drawer"),
    (reach.reached, "cabinet"),
    (reach.row_to, "cabinet", "pattern"),
    (reach.row_between, "cabinet", "standing", "pattern"),
    (reach.farthest, "cabinet"),
    (together.open_together, "cabinet", "some"),
    (together.never_together, "cabinet"),
    (together.most_open, "cabinet"),
    (together.paper, "cabinet", "some"),
    (stuck.dead_end, "cabinet"),
    (stuck.no_return, "cabinet"),
    (stuck.frozen, "cabinet", "drawer"),
    (stuck.never_opened, "cabinet"),
    (likeness.alike, "cabinet", "cabinet"),
    (likeness.first_apart, "cabinet", "cabinet"),
    (likeness.needless, "cabinet"),
    (likeness.fewest_bars, "cabinet"),
    (guards.guards, "cabinet", "pairs", "most"),
    (tries.possible, "drawers", "tries"),
    (tries.sure, "drawers", "tries"),
    (tries.simplest, "drawers", "tries"),
    (counts.count_rows, "cabinet", "length"),
    (counts.count_to, "cabinet", "length", "pattern"),
    (Desk, "cabinet"),
    (texts.write, "cabinet"),
    (texts.read, "text"),
    (forces.force, "cabinet", "pattern"),
    (forces.plan, "cabinet", "pattern"),
    (costs.cheapest, "cabinet", "costs", "pattern"),
    (rings.ring_at, "cabinet", "standing"),
    (rings.first_ring, "cabinet"),
    (rings.longest_row, "cabinet"),
    (seen.fits_many, "cabinet", "seen"),
    (seen.first_fit, "cabinet", "seen"),
    (seen.stands_after, "cabinet", "seen"),
    (seen.sure_pulls, "cabinet", "seen"),
    (rests.count_rest, "cabinet", "far", "divisor"),
    (names.renamed, "cabinet", "order"),
    (names.keeping, "cabinet"),
)
# These take any value as the last argument; the last things here are all that they may tell of ANY_VALUES.
OF_ANY_VALUE = (
    (reach.right_row, "cabinet", "pattern", (True, False)),
    (together.right_paper, "cabinet", "some", (True, False)),
    (forces.plan_depth, "cabinet", "pattern", (None, 0)),
)
ANY_VALUES = (None, True, 0, "", "ss", (), (0,), ("ss",), [], [0], ["ss", ["so"]], {}, {"ss": [0]}, ([], {}))


def right_arguments(kinds):
    return [KINDS[kind][0] for kind in kinds]


def lists_returned(cabinet):
    """Calls that return lists, for any cabinet."""
    first = "s" * cabinet.drawers
    calls = [
        (cabinets.can, cabinet, first),
        (cabinets.barring, cabinet, first, 0),
        (reach.reached, cabinet),
        (together.never_together, cabinet),
        (stuck.never_opened, cabinet),
        (likeness.needless, cabinet),
        (tries.possible, cabinet.drawers, [(first, 0, True)]),
        (tries.sure, cabinet.drawers, [(first, 0, True)]),
        (seen.stands_after, cabinet, [None, 0]),
        (names.keeping, cabinet),
    ]
    if cabinet.drawers <= 4:
        calls.append((guards.guards, cabinet, [], 2))
    return calls


class TestOrderOfErrors(unittest.TestCase):

    def check(self, function, arguments, error):
        with self.subTest(function=function.__name__, arguments=arguments):
            self.assertIs(raised_kind(function, *arguments), error)

    def test_one_wrong_argument(self):
        for function, *kinds in FUNCTIONS:
            for at, kind in enumerate(kinds):
                for wrong in KINDS[kind][1]:
                    arguments = right_arguments(kinds)
                    arguments[at] = wrong
                    self.check(function, arguments, KINDS[kind][2])

    def test_several_wrong_arguments(self):
        for function, *kinds in FUNCTIONS:
            for one, other in itertools.combinations(range(len(kinds)), 2):
                for wrong, second in itertools.product(KINDS[kinds[one]][1], KINDS[kinds[other]][1]):
                    arguments = right_arguments(kinds)
                    arguments[one], arguments[other] = wrong, second
                    self.check(function, arguments, KINDS[kinds[one]][2])

    def test_all_arguments_wrong(self):
        for function, *kinds in FUNCTIONS:
            arguments = [KINDS[kind][1][0] for kind in kinds]
            self.check(function, arguments, KINDS[kinds[0]][2])

    def test_functions_of_any_value(self):
        for function, *kinds, told in OF_ANY_VALUE:
            for value in ANY_VALUES:
                with self.subTest(function=function.__name__, value=value):
                    self.assertIn(function(*right_arguments(kinds), value), told)
                for at, kind in enumerate(kinds):
                    for wrong in KINDS[kind][1]:
                        arguments = right_arguments(kinds)
                        arguments[at] = wrong
                        self.check(function, (*arguments, value), KINDS[kind][2])

    def test_standings_patterns_and_drawers_of_other_cabinets(self):
        for drawers in range(1, 8):
            cabinet = Cabinet(drawers, ())
            for many in range(9):
                if many != drawers:
                    self.check(cabinets.can, (cabinet, "s" * many), errors.BadStanding)
                    self.check(reach.row_between, (cabinet, "o" * many, None), errors.BadStanding)
                    self.check(rings.ring_at, (cabinet, "s" * many), errors.BadStanding)
                    self.check(reach.row_to, (cabinet, "?" * many), errors.BadPattern)
                    self.check(counts.count_to, (cabinet, 1, "?" * many), errors.BadPattern)
                    self.check(forces.force, (cabinet, "?" * many), errors.BadPattern)
                    self.check(forces.plan_depth, (cabinet, "s" * many, ()), errors.BadPattern)
                    self.check(costs.cheapest, (cabinet, (1,) * many, "?" * drawers), errors.BadCosts)
                    self.check(names.renamed, (cabinet, tuple(range(many))), errors.BadOrder)
            self.check(stuck.frozen, (cabinet, drawers), errors.BadDrawer)
            self.check(Desk(cabinet).pull, (drawers,), errors.BadDrawer)
            self.check(together.paper, (cabinet, (drawers,)), errors.BadSet)
            self.check(seen.sure_pulls, (cabinet, [drawers]), errors.BadSeen)


class TestNothingIsShared(unittest.TestCase):

    def test_returned_lists_that_are_changed(self):
        for cabinet in (*CABINETS, Cabinet(2, (*ONE_OPEN.bars, (1, "shut", 0, "open")))):
            calls = lists_returned(cabinet)
            told = [copy.deepcopy(function(*arguments)) for function, *arguments in calls]
            for function, *arguments in calls:
                result = function(*arguments)
                self.assertIsInstance(result, list)
                result.reverse()
                result.append(None)
                result.clear()
            self.assertEqual([function(*arguments) for function, *arguments in calls], told)

    def test_equal_calls_give_equal_results(self):
        for function, *kinds in FUNCTIONS:
            if function not in (Desk, cabinets.behind):
                told = function(*right_arguments(kinds))
                again = function(*copy.deepcopy(right_arguments(kinds)))
                self.assertEqual(told, again)

    def test_arguments_stay_as_they_are(self):
        before = copy.deepcopy(KINDS)
        for function, *kinds in FUNCTIONS:
            for at, kind in enumerate(kinds):
                for value in (KINDS[kind][0], *KINDS[kind][1]):
                    arguments = right_arguments(kinds)
                    arguments[at] = value
                    raised_kind(function, *arguments)
        for kind, (right, wrong, _) in KINDS.items():
            self.assertEqual((right, wrong), before[kind][:2])

    def test_any_values_stay_as_they_are(self):
        before = copy.deepcopy(ANY_VALUES)
        for function, *kinds, _ in OF_ANY_VALUE:
            for value in ANY_VALUES:
                function(*right_arguments(kinds), value)
        self.assertEqual(ANY_VALUES, before)

    def test_lists_that_are_changed_afterwards(self):
        pairs, told_tries, things = [(0, 1)], [("ss", 0, False)], [None, 0]
        added = guards.guards(Cabinet(2, ()), pairs, 2)
        some = tries.possible(2, told_tries)
        every = tries.sure(2, told_tries)
        sure, ends = seen.sure_pulls(ONE_OPEN, things), seen.stands_after(ONE_OPEN, things)
        pairs.clear()
        told_tries.clear()
        things.reverse()
        self.assertEqual(added, [ONE_OPEN.bars])
        self.assertEqual(len(some), 8)
        self.assertEqual(every, [(0, "open", 1, "open")])
        self.assertEqual(guards.guards(Cabinet(2, ()), [(0, 1)], 2), added)
        self.assertEqual(tries.sure(2, [("ss", 0, False)]), every)
        self.assertEqual((sure, ends), ((0, 0), ["ss"]))
        self.assertEqual(seen.sure_pulls(ONE_OPEN, [None, 0]), sure)


if __name__ == "__main__":
    unittest.main()

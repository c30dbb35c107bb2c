"""Promise 17: what is sure of rows of which not all pulls were seen."""

import random
import unittest

from drawerlocks.cabinets import Cabinet
from drawerlocks.counts import count_rows
from drawerlocks.errors import BadCabinet, BadSeen
from drawerlocks.reach import reached, right_row
from drawerlocks.seen import first_fit, fits_many, stands_after, sure_pulls
from samples import (
    CABINETS, FAST, FREE, MANY_BARS, NO_CABINETS, NO_DRAWERS_OF_TWO, ONE_OPEN, STAIRS, raised, raised_kind,
)
from slow import all_rows, chosen_cabinets, slow_end, two_drawers

FUNCTIONS = (fits_many, first_fit, stands_after, sure_pulls)
# No list and no tuple of at most 60 things.
NO_SEEN = (
    None, True, False, 0, 1, -1, "", "0", "01", {}, {0: 1}, {0: None}, [None] * 61, (None,) * 61, [0] * 61, (0,) * 100,
    [None] * 1000, [7] * 61, ["x"] * 61,
)
NO_THINGS = tuple(value for value in NO_DRAWERS_OF_TWO if value is not None) + ("None", (None,), [None], "o")
# Drawer 0 is opened and stays so; no other pull goes.
ONE_PULL = Cabinet(2, (
    (0, "shut", 1, "open"), (0, "shut", 1, "shut"), (1, "open", 0, "open"), (1, "open", 0, "shut"),
))


def answers(cabinet, seen):
    return tuple(function(cabinet, seen) for function in FUNCTIONS)


def slow_answers(rows, seen):
    """What the four functions tell, of all rows of so many pulls, each with its end."""
    told = [
        (row, end) for row, end in rows
        if len(row) == len(seen) and all(thing is None or thing == drawer for thing, drawer in zip(seen, row))
    ]
    if not told:
        return 0, None, [], None
    sure = []
    for at in range(len(seen)):
        drawers = {row[at] for row, _ in told}
        sure.append(drawers.pop() if len(drawers) == 1 else None)
    return len(told), min(row for row, _ in told), sorted({end for _, end in told}), tuple(sure)


def things_seen(chosen, cabinet, rows, length):
    """What may be seen of a row of so many pulls, of one that goes most of the time."""
    row = chosen.choice(rows)[0] if rows and chosen.random() < 0.8 else None
    if row is None:
        row = [chosen.randrange(cabinet.drawers) for _ in range(length)]
    unseen = chosen.choice((0, 0.2, 0.5, 0.8, 1))
    return [None if chosen.random() < unseen else drawer for drawer in row]


class TestExamples(unittest.TestCase):

    def test_word_for_word(self):
        free, seen = Cabinet(2, ()), [None, 0]
        told = [fits_many(free, seen), first_fit(free, seen), sure_pulls(free, seen), stands_after(free, seen)]
        self.assertEqual(told, [2, (0, 0), (None, 0), ["oo", "ss"]])
        with self.assertRaises(BadSeen) as caught:
            fits_many(free, [0, 2])
        self.assertEqual(caught.exception.index, 1)


class TestAgainstAllRows(unittest.TestCase):

    def test_rows_of_up_to_six_pulls(self):
        chosen = random.Random(171)
        none, one, sure = 0, 0, 0
        cabinets = [
            Cabinet(1, ()), *two_drawers()[::2], ONE_PULL, STAIRS, MANY_BARS, *chosen_cabinets(172, 3, 60, 14),
            *chosen_cabinets(173, 4, 30, 24), Cabinet(4, ()),
        ]
        for cabinet in cabinets:
            for length in range(7):
                rows = all_rows(cabinet, length)
                for _ in range(4):
                    seen = things_seen(chosen, cabinet, rows, length)
                    told = slow_answers(rows, seen)
                    with self.subTest(drawers=cabinet.drawers, bars=cabinet.bars, seen=seen):
                        self.assertEqual(answers(cabinet, seen), told)
                        self.assertEqual(answers(cabinet, tuple(seen)), told)
                    none += told[0] == 0
                    one += told[0] == 1
                    sure += told[0] > 1 and any(
                        thing is None and drawer is not None for thing, drawer in zip(seen, told[3])
                    )
        self.assertGreater(none, 100)
        self.assertGreater(one, 100)
        # Pulls that were not seen, but are sure, though several rows agree.
        self.assertGreater(sure, 50)


class TestNothingSeen(unittest.TestCase):

    def test_no_pulls(self):
        for cabinet in CABINETS:
            for seen in ([], ()):
                self.assertEqual(answers(cabinet, seen), (1, (), ["s" * cabinet.drawers], ()))

    def test_pulls_that_were_not_seen(self):
        self.assertEqual(answers(FREE, [None]), (2, (0,), ["os", "so"], (None,)))
        self.assertEqual(answers(STAIRS, [None]), (1, (0,), ["oss"], (0,)))
        self.assertEqual(answers(Cabinet(1, ()), [None] * 3), (1, (0, 0, 0), ["o"], (0, 0, 0)))
        for cabinet in CABINETS:
            for length in (0, 1, 2, 5, 60):
                self.assertEqual(fits_many(cabinet, [None] * length), count_rows(cabinet, length))

    def test_no_row_has_so_many_pulls(self):
        self.assertEqual(answers(ONE_PULL, [None]), (1, (0,), ["os"], (0,)))
        for length in (2, 3, 60):
            self.assertEqual(answers(ONE_PULL, [None] * length), (0, None, [], None))
        self.assertEqual(answers(FAST, [None]), (0, None, [], None))


class TestAllSeen(unittest.TestCase):

    def test_rows_that_go(self):
        self.assertEqual(answers(STAIRS, [0, 1, 2, 1]), (1, (0, 1, 2, 1), ["oso"], (0, 1, 2, 1)))
        self.assertEqual(answers(FREE, (1, 1, 0)), (1, (1, 1, 0), ["os"], (1, 1, 0)))
        self.assertEqual(answers(ONE_OPEN, [1, 1] * 30), (1, (1, 1) * 30, ["ss"], (1, 1) * 30))

    def test_rows_that_do_not_go(self):
        for cabinet, seen in (
            (ONE_OPEN, [0, 1]), (ONE_OPEN, (1, 0, None)), (ONE_OPEN, [None, 1, 0, 1]), (FAST, [0]), (STAIRS, [1]),
            (STAIRS, [0, 2]), (STAIRS, [None, 2, None]), (ONE_PULL, [0, 0]), (ONE_PULL, [None, 1]), (ONE_PULL, [1]),
        ):
            with self.subTest(bars=cabinet.bars, seen=seen):
                self.assertEqual(answers(cabinet, seen), (0, None, [], None))


class TestSomeSeen(unittest.TestCase):

    def test_pulls_that_are_sure(self):
        # Whichever drawer is opened is shut again ahead of the other one.
        self.assertEqual(sure_pulls(ONE_OPEN, [0, None]), (0, 0))
        self.assertEqual(sure_pulls(ONE_OPEN, [None, 0]), (0, 0))
        self.assertEqual(sure_pulls(ONE_OPEN, [None, 0, None, 1]), (0, 0, 1, 1))
        self.assertEqual(sure_pulls(STAIRS, [None, None, 2]), (0, 1, 2))
        # Both (0, 1, 0, 2) and (0, 1, 2, 2) agree.
        self.assertEqual(sure_pulls(STAIRS, [None, None, None, 2]), (0, 1, None, 2))

    def test_pulls_that_are_not_sure(self):
        self.assertEqual(sure_pulls(FREE, [None, 0, None]), (None, 0, None))
        self.assertEqual(sure_pulls(STAIRS, [None, None]), (0, None))
        self.assertEqual(sure_pulls(ONE_OPEN, [None, None, 1]), (None, None, 1))

    def test_the_least_row(self):
        self.assertEqual(first_fit(FREE, [None, 1, None]), (0, 1, 0))
        self.assertEqual(first_fit(ONE_OPEN, [None, 1, None, None]), (1, 1, 0, 0))
        # The least first pull does not count if the rest does not go behind it.
        self.assertEqual(first_fit(ONE_OPEN, [None, None, None, 1]), (0, 0, 1, 1))
        self.assertEqual(first_fit(STAIRS, [None] * 4), (0, 0, 0, 0))
        self.assertEqual(first_fit(Cabinet(7, ()), [None, 6, None]), (0, 6, 0))

    def test_the_standings(self):
        self.assertEqual(stands_after(FREE, [None, None]), ["oo", "ss"])
        self.assertEqual(stands_after(FREE, [0, None]), ["oo", "ss"])
        self.assertEqual(stands_after(ONE_OPEN, [None, None, None]), ["os", "so"])
        self.assertEqual(stands_after(ONE_OPEN, [None, 1, None]), ["os", "so"])
        self.assertEqual(stands_after(ONE_OPEN, [None, None, 1]), ["so"])

    def test_lists_and_tuples(self):
        for cabinet in CABINETS:
            for seen in ([None, 0], [0, None, None], [0], [None] * 5):
                self.assertEqual(answers(cabinet, seen), answers(cabinet, tuple(seen)))


class TestSixtyThings(unittest.TestCase):

    def test_seven_free_drawers(self):
        cabinet = Cabinet(7, ())
        even = [standing for standing in reached(cabinet) if standing.count("o") % 2 == 0]
        self.assertEqual(len(even), 64)
        self.assertEqual(answers(cabinet, [None] * 60), (7 ** 60, (0,) * 60, even, (None,) * 60))
        told = (7 ** 30, (6, 0) * 30, even, (6, None) * 30)
        self.assertEqual(answers(cabinet, [6, None] * 30), told)
        self.assertEqual(answers(cabinet, (5,) * 60), (1, (5,) * 60, ["sssssss"], (5,) * 60))
        self.assertEqual(fits_many(cabinet, [None] * 59 + [3]), 7 ** 59)

    def test_seven_drawers_with_bars(self):
        chosen = random.Random(174)
        for cabinet in chosen_cabinets(175, 7, 6, 40):
            row, standing = [], "sssssss"
            for _ in range(60):
                going = [drawer for drawer in range(7) if slow_end(cabinet.bars, standing, (drawer,)) is not None]
                if going:
                    row.append(chosen.choice(going))
                    standing = slow_end(cabinet.bars, standing, (row[-1],))
            seen = [drawer if chosen.random() < 0.4 else None for drawer in row]
            many, least, ends, sure = answers(cabinet, seen)
            self.assertGreaterEqual(many, 1)
            self.assertIn(standing, ends)
            self.assertIs(right_row(cabinet, "???????", least), True)
            self.assertLessEqual(least, tuple(row))
            for told in (row, least):
                self.assertTrue(all(drawer in (None, pulled) for drawer, pulled in zip(sure, told)))
                self.assertTrue(all(drawer in (None, pulled) for drawer, pulled in zip(seen, told)))
            self.assertEqual(fits_many(cabinet, sure), many)
            self.assertEqual(fits_many(cabinet, row), 1)

    def test_a_pull_that_is_known_by_what_follows_far_behind(self):
        # 0 or 1 is opened, and stays open; 3 is opened only beside 1; 2 goes at all times.
        stays = [(drawer, "shut", other, stand) for drawer, other in ((0, 1), (1, 0)) for stand in ("open", "shut")]
        bars = [*stays, (0, "open", 1, "shut"), (1, "open", 0, "shut"), (3, "open", 1, "open")]
        cabinet = Cabinet(4, tuple(sorted(bars)))
        row = (1,) + (2,) * 58 + (3,)
        self.assertEqual(answers(cabinet, [None, *row[1:]]), (1, row, ["soso"], row))
        self.assertEqual(sure_pulls(cabinet, [None] + [2] * 58 + [None]), (None,) + (2,) * 58 + (None,))
        self.assertEqual(sure_pulls(ONE_OPEN, [None] * 59 + [1]), (None,) * 58 + (1, 1))
        self.assertEqual(sure_pulls(ONE_OPEN, [None, 0] * 29 + [None, 1]), (0,) * 58 + (1, 1))


class TestWrongArguments(unittest.TestCase):

    def check_index(self, cabinet, seen, index):
        for function in FUNCTIONS:
            with self.subTest(function=function.__name__, seen=seen):
                error = raised(function, cabinet, seen)
                self.assertIs(type(error), BadSeen)
                self.assertEqual(error.index, index)
                self.assertIsNot(error.index, False)

    def test_bad_cabinet_first_of_all(self):
        for value in NO_CABINETS:
            for seen in ([], [None], None, [True], [None] * 61, 5):
                for function in FUNCTIONS:
                    self.assertIs(raised_kind(function, value, seen), BadCabinet)

    def test_no_list_and_no_tuple_of_so_few_things(self):
        for value in NO_SEEN:
            for cabinet in (FREE, ONE_OPEN, FAST):
                self.check_index(cabinet, value, None)
        self.assertEqual(fits_many(FREE, [None] * 60), 2 ** 60)

    def test_things_that_are_neither(self):
        for value in NO_THINGS:
            self.check_index(FREE, [value], 0)
            self.check_index(FREE, (value,), 0)
            self.check_index(FREE, [0, value, 1], 1)
            self.check_index(FREE, (None, None, value, value), 2)
            self.check_index(FREE, [value, None, "x"], 0)
            self.check_index(FREE, [None] * 59 + [value], 59)

    def test_wrong_things_behind_pulls_that_do_not_go(self):
        self.check_index(FAST, [0, 1, 2], 2)
        self.check_index(ONE_OPEN, [0, 1, True], 2)

    def test_drawers_of_another_cabinet(self):
        for drawers in range(1, 8):
            cabinet = Cabinet(drawers, ())
            self.check_index(cabinet, [drawers - 1, drawers], 1)
            self.check_index(cabinet, (None, 7), 1)
            self.assertEqual(fits_many(cabinet, [drawers - 1, None]), drawers)


class TestNothingIsShared(unittest.TestCase):

    def test_lists_that_are_changed_afterwards(self):
        seen = [None, 0]
        told = answers(FREE, seen)
        self.assertEqual(seen, [None, 0])
        seen[1] = 1
        seen.append(None)
        self.assertEqual(told, (2, (0, 0), ["oo", "ss"], (None, 0)))
        self.assertEqual(answers(FREE, [None, 0]), told)
        self.assertEqual(answers(FREE, seen), (4, (0, 1, 0), ["os", "so"], (None, 1, None)))
        wrong = [None, True]
        self.assertIsNotNone(raised(sure_pulls, FREE, wrong))
        self.assertEqual(wrong, [None, True])

    def test_returned_lists_are_new(self):
        for seen in ([], [None], [None, 0]):
            told = stands_after(FREE, seen)
            self.assertIsInstance(told, list)
            again = list(told)
            told.clear()
            told.append("xx")
            self.assertEqual(stands_after(FREE, seen), again)
        stands_after(FAST, [0]).append("os")
        self.assertEqual(stands_after(FAST, [0]), [])

    def test_equal_calls_give_equal_results(self):
        for cabinet in CABINETS:
            again = Cabinet(cabinet.drawers, cabinet.bars)
            for seen in ([], [None, 0, None], [0] * 60):
                self.assertEqual(answers(cabinet, seen), answers(again, list(seen)))
                self.assertEqual(cabinet, again)


if __name__ == "__main__":
    unittest.main()

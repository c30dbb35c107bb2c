"""Promise 5: drawers that stand open together, and tables of standings where they never do."""

import itertools
import unittest

from drawerlocks.cabinets import Cabinet
from drawerlocks.errors import BadCabinet, BadSet
from drawerlocks.reach import reached, row_to
from drawerlocks.together import most_open, never_together, open_together, paper, right_paper
from samples import (
    CABINETS, FAST, FREE, MANY_BARS, NO_CABINETS, NO_SETS_OF_TWO, ONE_OPEN, STAIRS, raised_kind,
)
from slow import (
    all_sets, all_standings, first_of_rows, parts_of, slow_end, slow_first_rows, some_cabinets, two_drawers,
)

# Drawer 1 is never opened; 0 would be only if 1 were open.
HELD = Cabinet(2, ((0, "open", 1, "open"), (1, "open", 0, "open"), (1, "open", 0, "shut")))


def slow_open(standing, some):
    return all(standing[drawer] == "o" for drawer in some)


def slow_right_paper(cabinet, some, table):
    """Whether a tuple of standings is a table."""
    if "s" * cabinet.drawers not in table:
        return False
    for standing in table:
        if slow_open(standing, some):
            return False
        for drawer in range(cabinet.drawers):
            beyond = slow_end(cabinet.bars, standing, (drawer,))
            if beyond is not None and beyond not in table:
                return False
    return True


class TestExamples(unittest.TestCase):

    def test_word_for_word(self):
        one_open = Cabinet(2, ((0, "open", 1, "shut"), (1, "open", 0, "shut")))
        told = [
            open_together(one_open, (0, 1)), open_together(one_open, (1,)), never_together(one_open),
            most_open(one_open), most_open(Cabinet(2, ())),
        ]
        self.assertEqual(told, [None, (1,), [(0, 1)], (1, (0,)), (2, (0, 1))])
        told = [
            right_paper(one_open, (0, 1), ("ss", "so", "os")), right_paper(one_open, (0, 1), ("ss", "so")),
            right_paper(one_open, (0, 1), paper(one_open, (0, 1))),
        ]
        self.assertEqual(told, [True, False, True])


class TestAgainstAllRows(unittest.TestCase):

    def test_all_functions(self):
        for cabinet in some_cabinets():
            rows = slow_first_rows(cabinet)
            with self.subTest(drawers=cabinet.drawers, bars=cabinet.bars):
                for some in all_sets(cabinet.drawers):
                    row = first_of_rows([row for end, row in rows.items() if slow_open(end, some)])
                    self.assertEqual(open_together(cabinet, some), row)
                    table = paper(cabinet, some)
                    if row is None:
                        self.assertIsInstance(table, tuple)
                        self.assertTrue(slow_right_paper(cabinet, some, table))
                        self.assertIs(right_paper(cabinet, some, table), True)
                    else:
                        self.assertIsNone(table)
                        self.assertIs(right_paper(cabinet, some, tuple(rows)), False)
                pairs = itertools.combinations(range(cabinet.drawers), 2)
                self.assertEqual(
                    never_together(cabinet),
                    [pair for pair in pairs if not any(slow_open(end, pair) for end in rows)],
                )
                most = max(end.count("o") for end in rows)
                row = first_of_rows([row for end, row in rows.items() if end.count("o") == most])
                self.assertEqual(most_open(cabinet), (most, row))

    def test_right_paper_of_all_tuples_of_standings(self):
        for cabinet in two_drawers():
            for some in all_sets(2):
                for table in parts_of(all_standings(2)):
                    told = right_paper(cabinet, some, table)
                    self.assertIs(told, slow_right_paper(cabinet, some, table))
                    self.assertIs(right_paper(cabinet, some, table[::-1] + table[:1]), told)


class TestOpenTogether(unittest.TestCase):

    def test_the_empty_set(self):
        for cabinet in CABINETS:
            self.assertEqual(open_together(cabinet, ()), ())

    def test_all_drawers(self):
        self.assertEqual(open_together(FREE, (0, 1)), (0, 1))
        self.assertEqual(open_together(STAIRS, (0, 1, 2)), (0, 1, 2))
        self.assertEqual(open_together(Cabinet(1, ()), (0,)), (0,))
        self.assertEqual(open_together(Cabinet(7, ()), tuple(range(7))), tuple(range(7)))
        self.assertIsNone(open_together(ONE_OPEN, (0, 1)))
        # Drawer 1 must be opened ahead of 2.
        self.assertEqual(open_together(MANY_BARS, (0, 1, 2)), (0, 1, 2))

    def test_one_drawer(self):
        self.assertEqual(open_together(STAIRS, (2,)), (0, 1, 2))
        self.assertIsNone(open_together(FAST, (0,)))
        self.assertIsNone(open_together(FAST, (1,)))

    def test_the_least_of_several_equally_short_rows(self):
        self.assertEqual(open_together(Cabinet(3, ()), (0, 2)), (0, 2))
        self.assertEqual(open_together(Cabinet(4, ()), (1, 2, 3)), (1, 2, 3))
        # (3, 2, 0, 3, 1) leads to the lesser standing ooos, but (0, 1, 0, 3, 2) to sooo is the least row.
        cabinet = Cabinet(4, (
            (1, "open", 0, "open"), (1, "open", 3, "shut"), (2, "open", 0, "shut"), (2, "open", 3, "open"),
        ))
        self.assertEqual(open_together(cabinet, (1, 2)), (0, 1, 0, 3, 2))

    def test_the_shortest_row_ahead_of_the_least(self):
        self.assertEqual(open_together(FREE, (1,)), (1,))
        self.assertEqual(open_together(Cabinet(3, ((1, "open", 0, "shut"),)), (1, 2)), (1, 2))

    def test_agrees_with_row_to(self):
        for cabinet in CABINETS:
            for some in all_sets(cabinet.drawers):
                pattern = "".join("o" if drawer in some else "?" for drawer in range(cabinet.drawers))
                self.assertEqual(open_together(cabinet, some), row_to(cabinet, pattern))


class TestNeverTogether(unittest.TestCase):

    def test_one_drawer(self):
        self.assertEqual(never_together(Cabinet(1, ())), [])

    def test_two_drawers(self):
        self.assertEqual(never_together(FREE), [])
        self.assertEqual(never_together(ONE_OPEN), [(0, 1)])
        self.assertEqual(never_together(FAST), [(0, 1)])

    def test_seven_drawers(self):
        self.assertEqual(never_together(Cabinet(7, ())), [])
        pairs = list(itertools.combinations(range(7), 2))
        at_most_one = Cabinet(7, tuple(
            (drawer, "open", other, "shut") for drawer in range(7) for other in range(7) if other != drawer
        ))
        self.assertEqual(never_together(at_most_one), pairs)
        ends = Cabinet(7, ((0, "open", 6, "shut"), (6, "open", 0, "shut")))
        self.assertEqual(never_together(ends), [(0, 6)])
        # Drawer 3 is never opened.
        shut = Cabinet(7, ((3, "open", 5, "open"), (3, "open", 5, "shut")))
        self.assertEqual(never_together(shut), [pair for pair in pairs if 3 in pair])

    def test_one_way_is_enough_to_be_together(self):
        self.assertEqual(never_together(Cabinet(2, ((0, "open", 1, "shut"),))), [])


class TestMostOpen(unittest.TestCase):

    def test_ordinary(self):
        self.assertEqual(most_open(FREE), (2, (0, 1)))
        self.assertEqual(most_open(STAIRS), (3, (0, 1, 2)))
        self.assertEqual(most_open(Cabinet(1, ())), (1, (0,)))
        self.assertEqual(most_open(Cabinet(7, ())), (7, (0, 1, 2, 3, 4, 5, 6)))

    def test_none_is_opened(self):
        self.assertEqual(most_open(FAST), (0, ()))

    def test_the_least_of_several_rows(self):
        self.assertEqual(most_open(ONE_OPEN), (1, (0,)))
        # Drawer 2 stands open beside 0 or beside 1.
        self.assertEqual(most_open(Cabinet(3, ((0, "open", 1, "shut"), (1, "open", 0, "shut")))), (2, (0, 2)))

    def test_the_shortest_of_several_rows(self):
        # 0 and 1 are open together behind (2, 1, 2, 0) at first.
        cabinet = Cabinet(3, ((0, "open", 2, "shut"), (1, "open", 2, "open"), (2, "open", 0, "shut")))
        self.assertEqual(open_together(cabinet, (0, 1)), (2, 1, 2, 0))
        self.assertEqual(most_open(cabinet), (2, (2, 1)))


class TestPaper(unittest.TestCase):

    def test_open_together_at_some_time(self):
        self.assertIsNone(paper(FREE, (0, 1)))
        self.assertIsNone(paper(ONE_OPEN, (0,)))
        self.assertIsNone(paper(STAIRS, (0, 1, 2)))

    def test_never_open_together(self):
        for cabinet, some in ((ONE_OPEN, (0, 1)), (FAST, (0,)), (FAST, (1,)), (FAST, (0, 1)), (HELD, (1,))):
            table = paper(cabinet, some)
            self.assertIsInstance(table, tuple)
            self.assertIs(right_paper(cabinet, some, table), True)
            self.assertTrue(slow_right_paper(cabinet, some, table))

    def test_seven_drawers(self):
        cabinet = Cabinet(7, ((0, "open", 6, "shut"), (6, "open", 0, "shut")))
        table = paper(cabinet, (0, 6))
        self.assertIs(right_paper(cabinet, (0, 6), table), True)
        self.assertIs(right_paper(cabinet, (0, 5, 6), table), True)
        self.assertIs(right_paper(cabinet, (0, 5), table), False)
        self.assertTrue(slow_right_paper(cabinet, (0, 6), table))

    def test_no_table_for_the_empty_set(self):
        for cabinet in CABINETS:
            self.assertIsNone(paper(cabinet, ()))
            self.assertIs(right_paper(cabinet, (), tuple(reached(cabinet))), False)
            self.assertIs(right_paper(cabinet, (), ("s" * cabinet.drawers,)), False)
            self.assertIs(right_paper(cabinet, (), ()), False)


class TestRightPaper(unittest.TestCase):

    def test_any_order_and_standings_told_twice(self):
        for table in itertools.permutations(("os", "so", "ss")):
            self.assertIs(right_paper(ONE_OPEN, (0, 1), table), True)
            self.assertIs(right_paper(ONE_OPEN, (0, 1), table + table[1:]), True)
        self.assertIs(right_paper(ONE_OPEN, (0, 1), ("ss", "so", "os") * 10000), True)

    def test_standings_that_are_not_reached(self):
        # In os only drawer 0 can be moved in HELD, and in so both.
        self.assertEqual(reached(HELD), ["ss"])
        self.assertIs(right_paper(HELD, (1,), ("ss",)), True)
        self.assertIs(right_paper(HELD, (1,), ("ss", "os")), True)
        self.assertIs(right_paper(HELD, (1,), ("os", "ss", "os")), True)
        self.assertIs(right_paper(HELD, (0,), ("ss", "so")), False)
        self.assertIs(right_paper(HELD, (0, 1), ("ss", "so")), False)
        self.assertIs(right_paper(FAST, (0, 1), ("ss", "os")), False)
        # All standings in which 2 is shut, some of them never reached.
        cabinet = Cabinet(3, (
            (0, "open", 1, "open"), (1, "open", 0, "open"), (2, "open", 0, "open"), (2, "open", 0, "shut"),
        ))
        self.assertIs(right_paper(cabinet, (2,), ("sss", "oos", "oss", "sos")), True)
        self.assertIs(right_paper(cabinet, (2,), ("sss", "oos", "oss")), False)

    def test_a_standing_left_out(self):
        for table in itertools.combinations(("os", "so", "ss"), 2):
            self.assertIs(right_paper(ONE_OPEN, (0, 1), table), False)
        cabinet = Cabinet(4, ((0, "open", 3, "shut"), (3, "open", 0, "shut")))
        table = paper(cabinet, (0, 3))
        for left_out in reached(cabinet):
            part = tuple(standing for standing in table if standing != left_out)
            self.assertIs(right_paper(cabinet, (0, 3), part), False)

    def test_a_standing_in_which_all_are_open(self):
        self.assertIs(right_paper(ONE_OPEN, (0, 1), ("ss", "so", "os", "oo")), False)
        self.assertIs(right_paper(FREE, (0, 1), ("oo", "os", "so", "ss")), False)
        self.assertIs(right_paper(HELD, (0,), ("ss", "os")), False)

    def test_without_the_first_standing(self):
        self.assertIs(right_paper(FAST, (0, 1), ()), False)
        self.assertIs(right_paper(ONE_OPEN, (0, 1), ()), False)
        # From os and so of this cabinet no pull leads elsewhere, but it begins with ss.
        apart = Cabinet(2, (
            (0, "open", 1, "open"), (0, "shut", 1, "open"), (1, "open", 0, "open"), (1, "open", 0, "shut"),
        ))
        self.assertIs(right_paper(apart, (0, 1), ("ss",)), True)
        self.assertIs(right_paper(apart, (0, 1), ("os",)), False)
        self.assertIs(right_paper(apart, (0, 1), ("os", "ss")), True)

    def test_any_other_value(self):
        values = (
            None, True, False, 0, 1, -1, "", "ss", "ssoos", [], ["ss", "so", "os"], {}, {"ss": 1, "so": 1, "os": 1},
            (None,), (True,), ("",), ("s",), ("ss", "so", "os", ""), ("ss", "so", "os", "s"),
            ("ss", "so", "os", "sss"), ("ss", "so", "os", "s?"), ("ss", "so", "os", "??"), ("ss", "so", "os", "SS"),
            ("ss", "so", "os", "xx"), ("ss", "so", "os", None), ("ss", "so", "os", True), ("ss", "so", "os", 0),
            ("ss", "so", "os", ["ss"]), ("ss", "so", "os", {}), ("ss", "so", "os", {"ss": "ss"}),
            ("ss", "so", "os", ("ss",)), ("ss", "so", "os", ()), (("ss", "so", "os"),), (["ss", "so", "os"],),
            (("s", "s"), ("s", "o"), ("o", "s")), (0, 1), (0, 1, 2), (((),),), ([[]],), ({0: [1]},),
        )
        for value in values:
            with self.subTest(value=value):
                for some in all_sets(2):
                    self.assertIs(right_paper(ONE_OPEN, some, value), False)

    def test_standings_of_another_cabinet(self):
        self.assertIs(right_paper(Cabinet(3, ONE_OPEN.bars), (0, 1), ("ss", "so", "os")), False)

    def test_the_value_stays_as_it_is(self):
        value = ["ss", {"so": ["os"]}]
        right_paper(ONE_OPEN, (0, 1), value)
        right_paper(ONE_OPEN, (0, 1), tuple(value))
        self.assertEqual(value, ["ss", {"so": ["os"]}])


class TestWrongArguments(unittest.TestCase):

    def test_bad_set(self):
        for value in NO_SETS_OF_TWO:
            with self.subTest(value=value):
                self.assertIs(raised_kind(open_together, ONE_OPEN, value), BadSet)
                self.assertIs(raised_kind(paper, ONE_OPEN, value), BadSet)
                for table in (("ss", "so", "os"), (), None, [1]):
                    self.assertIs(raised_kind(right_paper, ONE_OPEN, value, table), BadSet)

    def test_a_set_of_another_cabinet(self):
        self.assertIs(raised_kind(open_together, Cabinet(1, ()), (0, 1)), BadSet)
        self.assertIs(raised_kind(paper, STAIRS, (3,)), BadSet)
        self.assertIs(raised_kind(right_paper, Cabinet(6, ()), (6,), ()), BadSet)

    def test_bad_cabinet_first_of_all(self):
        for value in NO_CABINETS:
            with self.subTest(value=value):
                self.assertIs(raised_kind(never_together, value), BadCabinet)
                self.assertIs(raised_kind(most_open, value), BadCabinet)
                for some in ((), (0,), (1, 0), None, [0], True):
                    self.assertIs(raised_kind(open_together, value, some), BadCabinet)
                    self.assertIs(raised_kind(paper, value, some), BadCabinet)
                    self.assertIs(raised_kind(right_paper, value, some, ("ss",)), BadCabinet)


class TestNothingIsShared(unittest.TestCase):

    def test_returned_lists_are_new(self):
        never_together(ONE_OPEN).clear()
        self.assertEqual(never_together(ONE_OPEN), [(0, 1)])
        never_together(FREE).append((0, 1))
        self.assertEqual(never_together(FREE), [])
        self.assertEqual(open_together(FREE, (0, 1)), (0, 1))

    def test_equal_calls_give_equal_results(self):
        for cabinet in CABINETS:
            again = Cabinet(cabinet.drawers, cabinet.bars)
            self.assertEqual(never_together(cabinet), never_together(again))
            self.assertEqual(most_open(cabinet), most_open(again))
            for some in all_sets(cabinet.drawers):
                self.assertEqual(open_together(cabinet, some), open_together(again, some))
                self.assertEqual(paper(cabinet, some), paper(again, some))


if __name__ == "__main__":
    unittest.main()

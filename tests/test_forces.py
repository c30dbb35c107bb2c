"""Promise 14: two who pull in turn, and the plans by which the first one forces a pattern."""

import functools
import itertools
import random
import unittest

from drawerlocks.cabinets import Cabinet
from drawerlocks.errors import BadCabinet, BadPattern
from drawerlocks.forces import force, plan, plan_depth
from drawerlocks.reach import reached, row_to
from samples import CABINETS, FAST, FREE, NO_CABINETS, NO_PATTERNS_OF_TWO, ONE_OPEN, STAIRS, raised_kind
from slow import all_bars, all_patterns, chosen_cabinets, slow_pulls, some_cabinets, two_drawers

# Opened drawers stay open until the other one is, too.
KEPT = Cabinet(2, ((0, "shut", 1, "open"), (1, "shut", 0, "open")))
# Behind (0,) no pull goes.
TRAP = Cabinet(2, ((0, "shut", 1, "open"), (1, "open", 0, "shut")))


def never(drawer, way, drawers):
    """Bars with which the drawer is never moved that way."""
    other = 0 if drawer > 0 else drawers - 1
    return (drawer, way, other, "open"), (drawer, way, other, "shut")


def staying(drawers, *bars):
    """A cabinet with these bars, in which drawers that are opened stay open."""
    stays = [bar for drawer in range(drawers) for bar in never(drawer, "shut", drawers)]
    return Cabinet(drawers, tuple(sorted({*stays, *bars})))


# Drawers are opened in their order only, and stay open.
ROW = staying(4, (1, "open", 0, "open"), (2, "open", 1, "open"), (3, "open", 2, "open"))


def fits(standing, pattern):
    return all(wanted in ("?", sign) for sign, wanted in zip(standing, pattern))


def slow_force(cabinet, pattern, planned=None):
    """The least number of pulls that is enough, whatever both may pull; of the first one only what is planned."""
    pulls = slow_pulls(cabinet)

    @functools.cache
    def forced(standing, first_pulls, left):
        if fits(standing, pattern):
            return True
        going = [(drawer, beyond) for drawer, beyond in enumerate(pulls[standing]) if beyond is not None]
        if left == 0 or not going:
            return False
        if not first_pulls:
            return all(forced(beyond, True, left - 1) for _, beyond in going)
        if planned is not None:
            going = [pull for pull in going if planned.get(standing) == pull[0]]
        return any(forced(beyond, False, left - 1) for _, beyond in going)

    # Whoever forces it at all need not come twice to a standing with the same one to pull.
    for many in range(2 * 2 ** cabinet.drawers + 1):
        if forced("s" * cabinet.drawers, True, many):
            return many
    return None


def all_plans(cabinet):
    """All plans of a cabinet, for very few drawers."""
    choices = [
        [None, *[(standing, drawer) for drawer, beyond in enumerate(pulls) if beyond is not None]]
        for standing, pulls in sorted(slow_pulls(cabinet).items())
    ]
    for chosen in itertools.product(*choices):
        yield tuple(pair for pair in chosen if pair is not None)


def a_plan(chosen, cabinet):
    """Some plan, of most standings."""
    pairs = []
    for standing, pulls in sorted(slow_pulls(cabinet).items()):
        going = [drawer for drawer, beyond in enumerate(pulls) if beyond is not None]
        if going and chosen.random() < 0.85:
            pairs.append((standing, chosen.choice(going)))
    return tuple(pairs)


def cabinets_to_force():
    yield from some_cabinets()
    yield from chosen_cabinets(141, 3, 60, 24)
    yield from chosen_cabinets(142, 4, 25, 40)
    chosen = random.Random(143)
    for drawers in (3, 4):
        opening = [bar for bar in all_bars(drawers) if bar[1] == "open"]
        for many in range(20):
            yield staying(drawers, *chosen.sample(opening, many % 8))


class TestExamples(unittest.TestCase):

    def test_word_for_word(self):
        kept = Cabinet(2, ((0, "shut", 1, "open"), (1, "shut", 0, "open")))
        told = [
            force(Cabinet(1, ()), "o"), plan(Cabinet(1, ()), "o"), force(Cabinet(2, ()), "oo"),
            plan(Cabinet(2, ()), "oo"), force(kept, "oo"), force(kept, "ss"),
        ]
        self.assertEqual(told, [1, (("s", 0),), None, None, 2, 0])
        told = [
            plan_depth(kept, "oo", plan(kept, "oo")), plan_depth(kept, "oo", (("ss", 1),)), plan_depth(kept, "oo", ()),
            plan_depth(Cabinet(2, ()), "oo", (("ss", 0),)),
        ]
        self.assertEqual(told, [2, 2, None, None])


class TestForce(unittest.TestCase):

    def test_patterns_that_fit_at_once(self):
        for cabinet in CABINETS:
            for pattern in ("s" * cabinet.drawers, "?" * cabinet.drawers):
                self.assertEqual(force(cabinet, pattern), 0)

    def test_one_pull(self):
        self.assertEqual([force(FREE, pattern) for pattern in ("o?", "?o", "os", "so")], [1, 1, 1, 1])
        self.assertEqual(force(Cabinet(1, ()), "o"), 1)
        self.assertEqual(force(Cabinet(7, ()), "??????o"), 1)
        self.assertEqual(force(STAIRS, "o??"), 1)

    def test_the_other_one_is_made_to_pull(self):
        # Behind the first pull only one pull goes.
        self.assertEqual(force(KEPT, "oo"), 2)
        self.assertEqual([force(ROW, pattern) for pattern in ("?o??", "??o?", "oooo")], [2, 3, 4])

    def test_more_pulls(self):
        # The other one may open 1 or 2, the first one then opens the third drawer.
        cabinet = staying(3, (1, "open", 0, "open"), (2, "open", 0, "open"))
        self.assertEqual([force(cabinet, pattern) for pattern in ("?o?", "??o", "ooo", "?oo")], [3, 3, 3, 3])
        self.assertIsNone(force(cabinet, "oos"))

    def test_of_several_ways_the_other_one_takes_the_longest(self):
        # Behind (0,) the other one opens 1 at once, or 2, behind which the first one opens 1.
        cabinet = staying(3)
        self.assertEqual(force(cabinet, "?o?"), 1)
        self.assertEqual(force(cabinet, "oo?"), 3)
        self.assertEqual(len(row_to(cabinet, "oo?")), 2)

    def test_patterns_that_cannot_be_forced(self):
        # The other one always undoes what the first one pulled.
        self.assertIsNone(force(FREE, "oo"))
        self.assertIsNone(force(Cabinet(7, ()), "oo?????"))
        self.assertIsNone(force(STAIRS, "??o"))
        # No standing that fits is reached at all.
        self.assertIsNone(force(ONE_OPEN, "oo"))
        self.assertIsNone(force(FAST, "o?"))

    def test_who_cannot_pull_ends_it(self):
        # The first one at once.
        self.assertEqual([force(FAST, pattern) for pattern in ("?o", "oo", "?s")], [None, None, 0])
        # The other one, behind any first pull.
        self.assertIsNone(force(staying(2, (0, "open", 1, "shut"), (1, "open", 0, "shut")), "oo"))
        # The first one later on: behind (1, 0), which the other one may choose, no pull goes.
        cabinet = staying(3, (1, "open", 0, "shut"), (2, "open", 0, "shut"))
        self.assertEqual(row_to(cabinet, "ooo"), (1, 2, 0))
        self.assertEqual([force(cabinet, pattern) for pattern in ("?o?", "?oo", "ooo")], [1, None, None])
        # Behind (0,) none goes, behind (1,) the other one shuts 1 again.
        self.assertEqual(row_to(TRAP, "oo"), (1, 0))
        self.assertEqual([force(TRAP, pattern) for pattern in ("o?", "oo")], [1, None])

    def test_what_fits_where_no_pull_goes_counts(self):
        self.assertEqual(force(TRAP, "os"), 1)
        self.assertEqual(force(ROW, "oooo"), 4)

    def test_a_pattern_that_fits_on_the_way_only(self):
        # Behind the first pull it fits, whatever follows.
        self.assertEqual(force(ROW, "osss"), 1)
        self.assertEqual(force(ROW, "oss?"), 1)


class TestAgainstAllPulls(unittest.TestCase):

    def test_force_and_plan(self):
        told = {}
        for cabinet in cabinets_to_force():
            patterns = all_patterns(cabinet.drawers)
            for pattern in patterns if cabinet.drawers < 4 else patterns[::5]:
                with self.subTest(drawers=cabinet.drawers, bars=cabinet.bars, pattern=pattern):
                    needed = slow_force(cabinet, pattern)
                    told[needed] = told.get(needed, 0) + 1
                    self.assertEqual(force(cabinet, pattern), needed)
                    found = plan(cabinet, pattern)
                    self.assertEqual(found is None, needed is None)
                    if found is not None:
                        self.assertIsInstance(found, tuple)
                        self.assertEqual(plan_depth(cabinet, pattern, found), needed)
                        self.assertEqual(slow_force(cabinet, pattern, dict(found)), needed)
        for many in (None, 0, 1, 2, 3, 4, 5):
            self.assertGreater(told[many], 5, told)

    def test_all_plans_of_two_drawers(self):
        for cabinet in [Cabinet(1, ()), *two_drawers()[::9], KEPT, TRAP]:
            plans = list(all_plans(cabinet))
            for pattern in all_patterns(cabinet.drawers):
                depths = []
                for told in plans:
                    depths.append(plan_depth(cabinet, pattern, told))
                    with self.subTest(bars=cabinet.bars, pattern=pattern, told=told):
                        self.assertEqual(depths[-1], slow_force(cabinet, pattern, dict(told)))
                least = min((depth for depth in depths if depth is not None), default=None)
                self.assertEqual(force(cabinet, pattern), least)

    def test_some_plans_of_more_drawers(self):
        chosen = random.Random(144)
        longer = 0
        for cabinet in cabinets_to_force():
            for pattern in chosen.sample(all_patterns(cabinet.drawers), 3):
                for _ in range(3):
                    told = a_plan(chosen, cabinet)
                    with self.subTest(drawers=cabinet.drawers, bars=cabinet.bars, pattern=pattern, told=told):
                        depth = plan_depth(cabinet, pattern, told)
                        self.assertEqual(depth, slow_force(cabinet, pattern, dict(told)))
                        if depth is not None:
                            self.assertGreaterEqual(depth, force(cabinet, pattern))
                            longer += depth > force(cabinet, pattern)
        self.assertGreater(longer, 10)


class TestPlan(unittest.TestCase):

    def test_forms(self):
        for cabinet in (KEPT, ROW, FREE, Cabinet(7, ())):
            for pattern in ("o" + "?" * (cabinet.drawers - 1), "?" * cabinet.drawers):
                found = plan(cabinet, pattern)
                self.assertIsInstance(found, tuple)
                standings = [standing for standing, _ in found]
                self.assertEqual(standings, sorted(set(standings)))
                self.assertEqual(plan_depth(cabinet, pattern, found), force(cabinet, pattern))
                self.assertEqual(plan(cabinet, pattern), found)

    def test_none(self):
        for cabinet, pattern in ((FREE, "oo"), (FAST, "o?"), (ONE_OPEN, "oo"), (Cabinet(7, ()), "ooooooo")):
            self.assertIsNone(plan(cabinet, pattern))

    def test_seven_drawers(self):
        told = 0
        for cabinet in chosen_cabinets(145, 7, 12, 60):
            for pattern in ("o??????", "oo?????", "???o?o?", "??s?o?o", "??????o"):
                found = plan(cabinet, pattern)
                if found is not None:
                    told += 1
                    self.assertEqual(plan_depth(cabinet, pattern, found), force(cabinet, pattern))
        self.assertGreater(told, 10)

    def test_a_long_row(self):
        bars = [(drawer, "open", drawer - 1, "open") for drawer in range(1, 7)]
        cabinet = staying(7, *bars)
        self.assertEqual(force(cabinet, "ooooooo"), 7)
        self.assertEqual(plan_depth(cabinet, "ooooooo", plan(cabinet, "ooooooo")), 7)
        opened = (("oooooos", 6), ("oooosss", 4), ("oosssss", 2), ("sssssss", 0))
        self.assertEqual(plan_depth(cabinet, "ooooooo", opened), 7)


class TestPlanDepth(unittest.TestCase):

    def test_the_pattern_fits_at_first(self):
        for told in ((), (("ss", 0),), (("so", 0), ("ss", 1))):
            self.assertEqual(plan_depth(KEPT, "ss", told), 0)
            self.assertEqual(plan_depth(KEPT, "?s", told), 0)
        self.assertIsNone(plan_depth(KEPT, "oo", ()))
        self.assertIsNone(plan_depth(FAST, "oo", ()))
        self.assertEqual(plan_depth(FAST, "ss", ()), 0)

    def test_further_standings(self):
        # "oo" fits, "os" and "so" are never come to with the first one to pull.
        for told in ((("oo", 1), ("ss", 0)), (("os", 1), ("so", 0), ("ss", 0)), (("oo", 0), ("so", 0), ("ss", 1))):
            self.assertEqual(plan_depth(KEPT, "oo", told), 2)
        # "oo" is not reached at all, but a pull that goes in it may be planned, too.
        self.assertEqual(plan_depth(ONE_OPEN, "?o", (("oo", 1), ("ss", 1))), 1)
        self.assertNotIn("oo", reached(ONE_OPEN))

    def test_standings_left_out(self):
        right = (("ooss", 2), ("ssss", 0))
        self.assertEqual(plan_depth(ROW, "oooo", right), 4)
        self.assertIsNone(plan_depth(ROW, "oooo", right[1:]))
        self.assertIsNone(plan_depth(ROW, "oooo", right[:1]))
        self.assertEqual(plan_depth(ROW, "oo??", right[1:]), 2)

    def test_another_drawer(self):
        self.assertEqual(plan_depth(FREE, "o?", (("ss", 0),)), 1)
        self.assertIsNone(plan_depth(FREE, "o?", (("ss", 1),)))
        # Behind (1, 1) the first one is to pull in the first standing again.
        self.assertIsNone(plan_depth(FREE, "oo", (("ss", 1),)))

    def test_plans_that_need_more_pulls(self):
        cabinet = staying(3, (1, "open", 0, "open"))
        self.assertEqual(force(cabinet, "??o"), 1)
        for told, depth in (
            ((("oos", 2), ("sss", 0)), 3), ((("sss", 2),), 1), ((("oso", 1), ("sss", 0)), None),
            ((("oso", 1), ("sss", 2)), 1),
        ):
            self.assertEqual(plan_depth(cabinet, "??o", told), depth)

    def test_values_that_are_no_plans(self):
        right = (("os", 0), ("so", 1), ("ss", 0))
        self.assertEqual(plan_depth(FREE, "o?", right), 1)
        values = (
            None, True, False, 0, 1, "", "ss", "ss0", [], {}, [("ss", 0)], {"ss": 0}, {("ss", 0): 1}, list(right),
            ("ss", 0), (("ss",), 0), ("ss",), (0,), (None,), ((),), (("ss", 0), None), (["ss", 0],), ({"ss": 0},),
            (("ss", 0, 0),), (("ss",),), (("ss", 0), ()), (("ss", (0,)),), ((0, "ss"),), ((("ss", 0),),),
            (("ss", "0"),), (("ss", None),), (("ss", [0]),), (("ss", {}),), (("ss", True),), (("ss", False),),
            (("ss", -1),), (("ss", 2),), (("ss", 10 ** 30),), (("s", 0),), (("sss", 0),), (("s?", 0),), (("??", 0),),
            (("SS", 0),), (("", 0),), ((None, 0),), ((0, 0),), ((True, 0),), ((["s", "s"], 0),), ((("s", "s"), 0),),
            (({}, 0),), (("sx", 0),), (("ss ", 0),),
        )
        for value in values:
            for pattern in ("o?", "ss", "??", "oo"):
                with self.subTest(value=value, pattern=pattern):
                    self.assertIsNone(plan_depth(FREE, pattern, value))

    def test_standings_twice_or_not_ascending(self):
        for told in (
            (("ss", 0), ("ss", 0)), (("ss", 0), ("ss", 1)), (("ss", 0), ("os", 0)), (("so", 0), ("os", 0), ("ss", 0)),
            (("oo", 0), ("os", 0), ("os", 0), ("ss", 0)), (("ss", 0), ("so", 1), ("os", 1), ("oo", 0)),
        ):
            for pattern in ("o?", "ss"):
                self.assertIsNone(plan_depth(FREE, pattern, told))
        self.assertEqual(plan_depth(FREE, "o?", (("oo", 0), ("os", 0), ("so", 0), ("ss", 0))), 1)

    def test_pulls_that_do_not_go(self):
        self.assertIsNone(plan_depth(ONE_OPEN, "?o", (("os", 1), ("ss", 1))))
        self.assertEqual(plan_depth(ONE_OPEN, "?o", (("os", 0), ("ss", 1))), 1)
        self.assertIsNone(plan_depth(ROW, "?o??", (("ssss", 1),)))
        self.assertIsNone(plan_depth(FAST, "ss", (("ss", 0),)))
        # Also in a standing that is not reached.
        self.assertIsNone(plan_depth(FAST, "ss", (("os", 1), ("ss", 0))))
        self.assertEqual(plan_depth(FAST, "ss", (("os", 0),)), 0)
        self.assertIsNone(plan_depth(KEPT, "oo", (("os", 0), ("ss", 0))))

    def test_drawers_that_are_true_or_false(self):
        # In Python 1 == True, and False == 0.
        self.assertEqual(plan_depth(KEPT, "oo", (("ss", 1),)), 2)
        self.assertIsNone(plan_depth(KEPT, "oo", (("ss", True),)))
        self.assertIsNone(plan_depth(KEPT, "oo", (("ss", False),)))
        self.assertIsNone(plan_depth(KEPT, "oo", (("oo", True), ("ss", 0))))


class TestWrongArguments(unittest.TestCase):

    def test_bad_cabinet_first_of_all(self):
        for value in NO_CABINETS:
            for pattern in ("??", "", None, 0):
                self.assertIs(raised_kind(force, value, pattern), BadCabinet)
                self.assertIs(raised_kind(plan, value, pattern), BadCabinet)
                for told in ((), None, (("ss", 0),)):
                    self.assertIs(raised_kind(plan_depth, value, pattern, told), BadCabinet)

    def test_bad_pattern(self):
        for pattern in NO_PATTERNS_OF_TWO:
            with self.subTest(pattern=pattern):
                self.assertIs(raised_kind(force, FREE, pattern), BadPattern)
                self.assertIs(raised_kind(plan, FREE, pattern), BadPattern)
                for told in ((), None, (("ss", 0),), [], (("ss", True),)):
                    self.assertIs(raised_kind(plan_depth, FREE, pattern, told), BadPattern)


class TestNothingIsShared(unittest.TestCase):

    def test_values_stay_as_they_are(self):
        value = (["ss", 0], ["so", 1])
        self.assertIsNone(plan_depth(FREE, "o?", value))
        self.assertEqual(value, (["ss", 0], ["so", 1]))
        pairs = [("os", 0), ("ss", 0)]
        told = tuple(pairs)
        self.assertEqual(plan_depth(FREE, "o?", told), 1)
        pairs.clear()
        self.assertEqual(plan_depth(FREE, "o?", told), 1)
        self.assertIsNone(plan_depth(FREE, "o?", pairs))
        self.assertEqual(pairs, [])

    def test_equal_calls_give_equal_results(self):
        for cabinet in (*CABINETS, KEPT, TRAP, ROW):
            again = Cabinet(cabinet.drawers, cabinet.bars)
            for pattern in ("o" + "?" * (cabinet.drawers - 1), "o" * cabinet.drawers):
                self.assertEqual(force(cabinet, pattern), force(again, pattern))
                self.assertEqual(plan(cabinet, pattern), plan(again, pattern))
                self.assertEqual(cabinet, again)


if __name__ == "__main__":
    unittest.main()

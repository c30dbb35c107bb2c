"""Promise 9: bars that are told back by pulls that were tried."""

import random
import unittest

from drawerlocks.cabinets import Cabinet, can
from drawerlocks.errors import BadDrawers, BadTries
from drawerlocks.tries import possible, simplest, sure
from samples import ONE_OPEN, raised, raised_kind
from slow import all_bars, all_standings, chosen_cabinets, parts_of, slow_end, two_drawers

FUNCTIONS = (possible, sure, simplest)
NO_COUNTS = (0, 8, -1, 10 ** 30, True, False, None, "", "2", (), (2,), [], [2], {}, {2: 2})
# No lists and no tuples of at most 30 things.
NO_TRIES = (
    None, True, False, 0, 1, -1, "", "ss", {}, {("ss", 0, True): 1}, {0: 1}, [("ss", 0, True)] * 31,
    (("ss", 0, True),) * 31, [None] * 31, [()] * 1000,
)
# No tries of two drawers.
NO_TRY = (
    None, True, False, 0, "", "ss", [], {}, (), ["ss", 0, True], {"ss": 0}, ("ss", 0), ("ss",), ("ss", 0, True, True),
    ("ss", 0, True, False), ("s", 0, True), ("sss", 0, True), ("", 0, True), ("s?", 0, True), ("??", 0, False),
    ("SS", 0, True), ("sx", 0, True), (None, 0, True), (0, 0, True), (True, 0, True), (("s", "s"), 0, True),
    (["s", "s"], 0, True), ({}, 0, True), ("ss", True, True), ("ss", False, False), ("ss", 2, True), ("ss", -1, True),
    ("ss", "0", True), ("ss", None, True), ("ss", (0,), True), ("ss", [0], True), ("ss", {}, True), ("ss", 0, 1),
    ("ss", 0, 0), ("ss", 0, None), ("ss", 0, "True"), ("ss", 0, ""), ("ss", 0, []), ("ss", 0, (True,)), ("ss", 0, {}),
    (0, "ss", True), (True, 0, "ss"), (("ss", 0, True),),
)


def agrees(bars, tries):
    return all((slow_end(bars, standing, (drawer,)) is not None) == went for standing, drawer, went in tries)


def slow_answers(drawers, tries):
    """What the three functions tell, by trying all tuples of bars."""
    good = [bars for bars in parts_of(all_bars(drawers)) if agrees(bars, tries)]
    if not good:
        return None, None, None
    some = [bar for bar in all_bars(drawers) if any(bar in bars for bars in good)]
    every = [bar for bar in all_bars(drawers) if all(bar in bars for bars in good)]
    return some, every, good[0]


def answers(drawers, tries):
    return possible(drawers, tries), sure(drawers, tries), simplest(drawers, tries)


def true_tries(cabinet, pulls):
    return [(standing, drawer, drawer in can(cabinet, standing)) for standing, drawer in pulls]


def all_pulls(drawers):
    return [(standing, drawer) for standing in all_standings(drawers) for drawer in range(drawers)]


class TestExamples(unittest.TestCase):

    def test_word_for_word(self):
        told = [("ss", 0, True), ("so", 0, False)]
        told = [
            len(possible(2, told)), sure(2, told), simplest(2, told), possible(2, [("ss", 0, True), ("ss", 0, False)]),
            simplest(2, []),
        ]
        self.assertEqual(told, [7, [(0, "open", 1, "shut")], ((0, "open", 1, "shut"),), None, ()])


class TestAgainstAllTuplesOfBars(unittest.TestCase):

    def test_one_drawer(self):
        for tries in parts_of([(standing, 0, went) for standing in "os" for went in (True, False)]):
            self.assertEqual(answers(1, tries), slow_answers(1, tries))

    def test_two_drawers(self):
        chosen = random.Random(91)
        pulls = all_pulls(2)
        for _ in range(150):
            tries = [(*pull, chosen.random() < 0.6) for pull in chosen.sample(pulls, chosen.randint(0, 6))]
            with self.subTest(tries=tries):
                self.assertEqual(answers(2, tries), slow_answers(2, tries))

    def test_two_drawers_with_a_cabinet_behind(self):
        for cabinet in two_drawers():
            tries = true_tries(cabinet, all_pulls(2))
            told = answers(2, tries)
            self.assertTrue(agrees(told[0], tries))
            self.assertTrue(agrees(told[2], tries))
            self.assertLessEqual(set(told[1]), set(cabinet.bars))
            self.assertLessEqual(set(cabinet.bars), set(told[0]))
            self.assertLessEqual(len(told[2]), len(cabinet.bars))

    def test_three_drawers(self):
        # Only pulls of one drawer are tried: all tuples of its bars are looked at, and other bars may be there or not.
        chosen = random.Random(92)
        for cabinet in chosen_cabinets(93, 3, 30, 16):
            drawer = chosen.randrange(3)
            own = [bar for bar in all_bars(3) if bar[0] == drawer]
            pulls = [(standing, drawer) for standing in chosen.sample(all_standings(3), 5)]
            for tries in (true_tries(cabinet, pulls), [(*pull, chosen.random() < 0.5) for pull in pulls]):
                good = [bars for bars in parts_of(own) if agrees(bars, tries)]
                told = (None, None, None)
                if good:
                    told = (
                        [bar for bar in all_bars(3) if bar[0] != drawer or any(bar in bars for bars in good)],
                        [bar for bar in own if all(bar in bars for bars in good)],
                        good[0],
                    )
                with self.subTest(tries=tries):
                    self.assertEqual(answers(3, tries), told)

    def test_the_simplest_of_three_drawers(self):
        chosen = random.Random(94)
        for cabinet in chosen_cabinets(95, 3, 30, 3):
            tries = true_tries(cabinet, chosen.sample(all_pulls(3), 6))
            first = next(bars for bars in parts_of(all_bars(3)) if agrees(bars, tries))
            self.assertEqual(simplest(3, tries), first)


class TestNoTries(unittest.TestCase):

    def test_any_number_of_drawers(self):
        for drawers in range(1, 8):
            for tries in ([], ()):
                self.assertEqual(answers(drawers, tries), (all_bars(drawers), [], ()))


class TestContradictions(unittest.TestCase):

    def test_one_pull_that_went_and_did_not(self):
        for standing, drawer in all_pulls(2):
            tries = [(standing, drawer, True), (standing, drawer, False)]
            self.assertEqual(answers(2, tries), (None, None, None))
            self.assertEqual(answers(2, tries[::-1]), (None, None, None))

    def test_several_standings(self):
        # What bars drawer 0 in sso is on 1 or on 2; but neither of these bars it in soo and in sss.
        tries = [("soo", 0, True), ("sss", 0, True), ("sso", 0, False)]
        self.assertEqual(answers(3, tries), (None, None, None))
        self.assertEqual(simplest(3, tries[1:]), ((0, "open", 2, "shut"),))

    def test_a_pull_of_another_drawer_or_way(self):
        tries = [("ss", 0, True), ("os", 0, False), ("ss", 1, False)]
        self.assertEqual(simplest(2, tries), ((0, "shut", 1, "open"), (1, "open", 0, "open")))


class TestOneDrawer(unittest.TestCase):

    def test_all_pulls_go(self):
        self.assertEqual(answers(1, [("s", 0, True)]), ([], [], ()))
        self.assertEqual(answers(1, [("s", 0, True), ("o", 0, True)] * 15), ([], [], ()))
        self.assertEqual(answers(1, [("s", 0, True), ("o", 0, False)]), (None, None, None))


class TestPossibleAndSure(unittest.TestCase):

    def test_pulls_that_went(self):
        bars = [bar for bar in all_bars(2) if bar[:2] != (0, "open")]
        self.assertEqual(possible(2, [("ss", 0, True), ("so", 0, True)]), bars)
        self.assertEqual(sure(2, [("ss", 0, True), ("so", 0, True)]), [])

    def test_pulls_that_did_not_go(self):
        self.assertEqual(possible(2, [("ss", 0, False)]), all_bars(2))
        self.assertEqual(sure(2, [("ss", 0, False)]), [(0, "open", 1, "open")])
        # Of three drawers either of two bars may be the one.
        self.assertEqual(possible(3, [("sss", 0, False)]), all_bars(3))
        self.assertEqual(sure(3, [("sss", 0, False)]), [])
        self.assertEqual(sure(3, [("sss", 0, False), ("sso", 0, True)]), [(0, "open", 2, "open")])

    def test_told_twice(self):
        tries = [("ss", 0, False), ("oo", 1, False), ("so", 0, True)]
        self.assertEqual(sure(2, tries), [(0, "open", 1, "open"), (1, "shut", 0, "shut")])
        self.assertEqual(answers(2, tries * 10), answers(2, tries))
        self.assertEqual(answers(2, tries[::-1]), answers(2, tries))


class TestSimplest(unittest.TestCase):

    def test_the_least_of_the_smallest(self):
        self.assertEqual(simplest(3, [("sss", 0, False)]), ((0, "open", 1, "open"),))
        self.assertEqual(simplest(3, [("ooo", 2, False)]), ((2, "shut", 0, "shut"),))
        self.assertEqual(simplest(3, [("soo", 0, False)]), ((0, "open", 1, "shut"),))

    def test_fewer_ahead_of_lesser(self):
        # One bar on drawer 2 is enough, two on drawer 1 would be less.
        tries = [("sss", 0, False), ("sos", 0, False)]
        self.assertTrue(agrees(((0, "open", 1, "open"), (0, "open", 1, "shut")), tries))
        self.assertEqual(simplest(3, tries), ((0, "open", 2, "open"),))

    def test_several_drawers(self):
        tries = [("sss", 2, False), ("sss", 0, False), ("sos", 0, False), ("ooo", 1, False)]
        told = ((0, "open", 2, "open"), (1, "shut", 0, "shut"), (2, "open", 0, "open"))
        self.assertEqual(simplest(3, tries), told)


class TestSevenDrawers(unittest.TestCase):

    def test_thirty_tries(self):
        chosen = random.Random(96)
        for cabinet in chosen_cabinets(97, 7, 12, 30):
            tries = true_tries(cabinet, [("".join(chosen.choices("os", k=7)), chosen.randrange(7)) for _ in range(30)])
            some, every, least = answers(7, tries)
            self.assertTrue(agrees(cabinet.bars, tries))
            self.assertTrue(agrees(some, tries))
            self.assertTrue(agrees(least, tries))
            self.assertLessEqual(set(cabinet.bars), set(some))
            self.assertLessEqual(len(least), len(cabinet.bars))
            self.assertLessEqual(set(every), set(least))
            for bar in all_bars(7):
                if bar not in some:
                    self.assertFalse(agrees(sorted([*some, bar]), tries))
            for bar in some:
                rest = [own for own in some if own != bar]
                self.assertEqual(bar in every, not agrees(rest, tries))
            for bar in least:
                self.assertFalse(agrees([own for own in least if own != bar], tries))

    def test_thirty_tries_of_one_drawer(self):
        chosen = random.Random(98)
        standings = [standing for standing in all_standings(7) if standing[6] == "s"]
        own = [bar for bar in all_bars(7) if bar[:2] == (6, "open")]
        for _ in range(4):
            told = chosen.sample(standings, 30)
            tries = [(standing, 6, False) for standing in told]
            least = simplest(7, tries)
            self.assertEqual(least, next(bars for bars in parts_of(own) if agrees(bars, tries)))


class TestWrongArguments(unittest.TestCase):

    def check_index(self, drawers, tries, index):
        for function in FUNCTIONS:
            with self.subTest(function=function.__name__, drawers=drawers, tries=tries):
                error = raised(function, drawers, tries)
                self.assertIs(type(error), BadTries)
                self.assertEqual(error.index, index)
                self.assertIsNot(error.index, False)

    def test_bad_drawers(self):
        for value in NO_COUNTS:
            for tries in ([], [("ss", 0, True)], [("", 0, True)]):
                for function in FUNCTIONS:
                    with self.subTest(function=function.__name__, value=value):
                        self.assertIs(raised_kind(function, value, tries), BadDrawers)

    def test_bad_drawers_ahead_of_bad_tries(self):
        for value in NO_COUNTS:
            for tries in (None, [None], [("s", 0)] * 31, "ss"):
                for function in FUNCTIONS:
                    self.assertIs(raised_kind(function, value, tries), BadDrawers)

    def test_no_list_and_no_tuple_of_so_few(self):
        for value in NO_TRIES:
            self.check_index(2, value, None)

    def test_thirty_and_thirty_one(self):
        for tries in ([("ss", 0, True)] * 30, (("ss", 0, True),) * 30):
            self.assertEqual(simplest(2, tries), ())
        self.check_index(2, [("ss", 0, True)] * 31, None)
        self.check_index(2, [("ss", 0, True)] * 29 + [None], 29)

    def test_no_try(self):
        for value in NO_TRY:
            self.check_index(2, [value], 0)
            self.check_index(2, (value,), 0)
            self.check_index(2, [("ss", 0, True), value], 1)
            self.check_index(2, (("ss", 0, True), ("ss", 0, False), value, None), 2)

    def test_tries_of_another_number_of_drawers(self):
        self.check_index(3, [("sss", 2, True), ("ss", 0, True)], 1)
        self.check_index(1, [("s", 1, True)], 0)
        self.check_index(7, [("sssssss", 7, True)], 0)

    def test_one_try_alone_is_a_tuple_of_no_tries(self):
        self.check_index(2, ("ss", 0, True), 0)

    def test_bad_tries_where_tries_contradict_each_other(self):
        self.check_index(2, [("ss", 0, True), ("ss", 0, False), ("ss", 0, 1)], 2)


class TestNothingIsShared(unittest.TestCase):

    def test_returned_lists_are_new(self):
        tries = [("ss", 0, False)]
        possible(2, tries).clear()
        self.assertEqual(possible(2, tries), all_bars(2))
        sure(2, tries).append(None)
        self.assertEqual(sure(2, tries), [(0, "open", 1, "open")])
        sure(2, []).append(None)
        self.assertEqual(sure(2, []), [])
        possible(1, []).append(None)
        self.assertEqual(possible(1, []), [])

    def test_arguments_stay_as_they_are(self):
        tries = [("so", 0, False), ("ss", 0, True)]
        told = answers(2, tries)
        self.assertEqual(tries, [("so", 0, False), ("ss", 0, True)])
        tries.append(("ss", 0, False))
        self.assertEqual(answers(2, tries), (None, None, None))
        tries.pop()
        self.assertEqual(answers(2, tries), told)
        self.assertEqual(answers(2, tuple(tries)), told)

    def test_the_bars_of_a_cabinet(self):
        self.assertEqual(simplest(2, true_tries(ONE_OPEN, all_pulls(2))), ONE_OPEN.bars)
        self.assertEqual(Cabinet(2, simplest(2, [])), Cabinet(2, ()))


if __name__ == "__main__":
    unittest.main()

"""Promise 12: cabinets as texts, and texts that are those of none."""

import random
import unittest

from drawerlocks.cabinets import Cabinet
from drawerlocks.errors import BadCabinet, InvalidText
from drawerlocks.texts import read, write
from samples import CABINETS, MANY_BARS, NO_CABINETS, ONE_OPEN, raised, raised_kind
from slow import all_bars, chosen_cabinets, some_cabinets

TEXT = "drawers 2\nbar 0 open 1 shut\nbar 1 open 0 shut"
# Other white space than spaces, line feeds left out: as part of a word, or alone as one.
OTHER_WHITE_SPACE = ("\t", "\r", "\v", "\f", "\u00a0", "\u2003", "\u200b", "\u2028", "\u0085", "\x1c", "\ufeff")


def cabinets_to_write():
    for drawers in range(1, 8):
        yield Cabinet(drawers, ())
        yield Cabinet(drawers, tuple(all_bars(drawers)))
    yield from CABINETS
    yield from some_cabinets()
    for drawers in range(2, 8):
        yield from chosen_cabinets(120 + drawers, drawers, 8, len(all_bars(drawers)))


def words_that_begin_lines(drawers):
    """For each number of words all that may begin a bar's line with so many, those of whole lines too."""
    names = [str(drawer) for drawer in range(drawers)]
    lines = [(), ("bar",), *[("bar", name) for name in names]]
    lines.extend(("bar", name, way) for name in names for way in ("open", "shut"))
    for bar in all_bars(drawers):
        whole = ("bar", *[str(part) for part in bar])
        lines.extend([whole[:4], whole])
    return set(lines)


def first_fault(words, right):
    """The place of the first word behind which no line goes on, that of the missing one if there is none."""
    for place in range(1, len(words) + 1):
        if tuple(words[:place]) not in right:
            return place
    return len(words) + 1


def slow_read(text):
    """The drawers and bars of a text, or the line and the word that cannot stand there, as a list."""
    lines = [[word for word in line.split(" ") if word] for line in text.split("\n")]
    heads = {("drawers", sign): number for number, sign in enumerate("1234567", start=1)}
    if tuple(lines[0]) not in heads:
        return [1, first_fault(lines[0], {(), ("drawers",), *heads})]
    drawers = heads[tuple(lines[0])]
    right = words_that_begin_lines(drawers)
    bars = {("bar", *[str(part) for part in bar]): bar for bar in all_bars(drawers)}
    told = []
    for number, words in enumerate(lines[1:], start=2):
        bar = bars.get(tuple(words))
        if bar is None:
            return [number, first_fault(words, right)]
        if told and told[-1] >= bar:
            return [number, 6]
        told.append(bar)
    return drawers, tuple(told)


def what_is_read(text):
    try:
        cabinet = read(text)
    except InvalidText as error:
        return [error.line, error.word]
    return cabinet.drawers, cabinet.bars


class TestExamples(unittest.TestCase):

    def test_word_for_word(self):
        told = write(Cabinet(2, ((0, "open", 1, "shut"), (1, "open", 0, "shut")))).split("\n")
        self.assertEqual(told, ["drawers 2", "bar 0 open 1 shut", "bar 1 open 0 shut"])
        with self.assertRaises(InvalidText) as caught:
            read("drawers 2\nbar 0 open 0 shut")
        self.assertEqual((caught.exception.line, caught.exception.word), (2, 4))


class TestWrite(unittest.TestCase):

    def test_lines(self):
        self.assertEqual(write(Cabinet(1, ())), "drawers 1")
        self.assertEqual(write(Cabinet(7, ())), "drawers 7")
        self.assertEqual(write(ONE_OPEN), TEXT)
        self.assertEqual(
            write(MANY_BARS), "drawers 3\nbar 0 shut 1 shut\nbar 1 open 0 open\nbar 1 open 2 shut",
        )

    def test_form(self):
        for cabinet in cabinets_to_write():
            text = write(cabinet)
            self.assertIsInstance(text, str)
            lines = text.split("\n")
            self.assertEqual(len(lines), 1 + len(cabinet.bars))
            self.assertEqual(lines[0], "drawers " + str(cabinet.drawers))
            for line, bar in zip(lines[1:], cabinet.bars):
                self.assertEqual(line, "bar " + " ".join(str(part) for part in bar))

    def test_bad_cabinet(self):
        for value in (*NO_CABINETS, Cabinet, TEXT):
            with self.subTest(value=value):
                self.assertIs(raised_kind(write, value), BadCabinet)


class TestThereAndBack(unittest.TestCase):

    def test_cabinets(self):
        for cabinet in cabinets_to_write():
            again = read(write(cabinet))
            self.assertIsInstance(again, Cabinet)
            self.assertEqual(again, cabinet)
            self.assertEqual(write(again), write(cabinet))

    def test_further_spaces(self):
        chosen = random.Random(121)
        for cabinet in cabinets_to_write():
            lines = []
            for line in write(cabinet).split("\n"):
                words = [word + " " * chosen.randint(1, 3) for word in line.split(" ")]
                lines.append(" " * chosen.randint(0, 2) + "".join(words))
            self.assertEqual(read("\n".join(lines)), cabinet)

    def test_spaces_by_hand(self):
        self.assertEqual(read("  drawers   2  \n bar  0 open 1    shut\nbar 1 open 0 shut "), ONE_OPEN)
        self.assertEqual(read(" drawers 1"), Cabinet(1, ()))
        self.assertEqual(read("drawers 1" + " " * 100000), Cabinet(1, ()))


class TestInvalidText(unittest.TestCase):

    def check(self, text, line, word):
        with self.subTest(text=text):
            error = raised(read, text)
            self.assertIs(type(error), InvalidText)
            self.assertEqual((error.line, error.word), (line, word))

    def check_bar(self, words, word, drawers=3):
        """The words of a line cannot stand behind those of the drawers, and none behind a bar either."""
        self.check(f"drawers {drawers}\n{words}", 2, word)
        if drawers > 1:
            self.check(f"drawers {drawers}\nbar 0 open 1 open\n{words}", 3, word)
            self.check(f"drawers {drawers}\n{words}\nbar 0 open 0 open\n\nx", 2, word)

    def test_empty_texts_and_lines(self):
        self.check("", 1, 1)
        self.check(" ", 1, 1)
        self.check("     ", 1, 1)
        self.check("\n", 1, 1)
        self.check("\ndrawers 2", 1, 1)
        self.check("   \ndrawers 2", 1, 1)
        self.check("drawers 2\n", 2, 1)
        self.check("drawers 2\n   ", 2, 1)
        self.check("drawers 2\n\n", 2, 1)
        self.check(TEXT + "\n", 4, 1)
        self.check(TEXT + "\n  ", 4, 1)
        self.check("drawers 2\n\nbar 0 open 1 shut", 2, 1)
        self.check("drawers 2\nbar 0 open 1 shut\n \nbar 1 open 0 shut", 3, 1)

    def test_a_wrong_first_word(self):
        for word in ("drawer", "Drawers", "DRAWERS", "drawers2", "drawers:", "bar", "2", "draw ers", "d", "cabinet"):
            self.check(f"{word} 2", 1, 1)
            self.check(word, 1, 1)
        self.check(TEXT.removeprefix("drawers 2\n"), 1, 1)
        for word in ("Bar", "bars", "BAR", "0", "open", "ba r", "bar0", "drawers"):
            self.check_bar(f"{word} 0 open 2 shut", 1)
            self.check_bar(word, 1)

    def test_numbers_of_drawers_that_are_none(self):
        numbers = (
            "0", "8", "9", "10", "-1", "+2", "2.0", "02", "07", "007", "1_0", "2_", "0x2", "2e0", "two", "two2", "II",
            "2,", "2\u0662", "\u0662", "\uff12", "\u00b2", "\u2460", "\u0967", "2\u0300", "1" * 5000, "9" * 100000,
            "0" * 5000 + "2", "True", "None", "-0", "''", '"2"', "[2]",
        )
        for number in numbers:
            self.check(f"drawers {number}", 1, 2)
            self.check(f"drawers {number} 3\nbar", 1, 2)
        for number in "1234567":
            self.assertEqual(read(f"drawers {number}"), Cabinet(int(number), ()))

    def test_drawers_that_there_are_not(self):
        for number in ("3", "7", "10", "-1", "00", "01", "+0", "0.0", "one", "\u0661", "\uff10", "9" * 5000, "open"):
            self.check_bar(f"bar {number} open 2 shut", 2)
            self.check_bar(f"bar 2 open {number} shut", 4)
            self.check_bar(f"bar {number}", 2)
            self.check_bar(f"bar {number} x {number} x x x", 2)
            self.check_bar(f"bar 2 open {number} x x", 4)

    def test_each_drawer_of_each_cabinet(self):
        for drawers in range(1, 8):
            for one in range(9):
                for other in range(9):
                    text = f"drawers {drawers}\nbar {one} shut {other} open"
                    if one >= drawers:
                        self.check(text, 2, 2)
                    elif other >= drawers or one == other:
                        self.check(text, 2, 4)
                    else:
                        self.assertEqual(read(text), Cabinet(drawers, ((one, "shut", other, "open"),)))

    def test_other_is_the_drawer_itself(self):
        for drawer in range(3):
            self.check_bar(f"bar {drawer} open {drawer} shut", 4)
            self.check_bar(f"bar {drawer} shut {drawer}", 4)
            self.check_bar(f"bar {drawer} shut {drawer} x y", 4)

    def test_one_drawer_has_no_bars(self):
        self.check_bar("bar 0 open 0 shut", 4, drawers=1)
        self.check_bar("bar 0 open 1 shut", 4, drawers=1)
        self.check_bar("bar 1 open 0 shut", 2, drawers=1)
        self.check_bar("bar 0 open", 4, drawers=1)
        self.check_bar("bar", 2, drawers=1)

    def test_words_that_are_neither_open_nor_shut(self):
        for word in ("o", "s", "Open", "OPEN", "opened", "close", "shut,", "1", "open|shut", "bar", "?"):
            self.check_bar(f"bar 1 {word} 2 shut", 3)
            self.check_bar(f"bar 1 open 2 {word}", 5)
            self.check_bar(f"bar 1 {word}", 3)
            self.check_bar(f"bar 1 {word} 1 {word}", 3)

    def test_further_words(self):
        for words in ("x", "bar", "1", "bar 1 open 0 shut", "x y z", "drawers", "\t"):
            self.check(f"drawers 2 {words}", 1, 3)
            self.check(f"drawers 2 {words}\nbar 0 open 1 shut", 1, 3)
            self.check_bar(f"bar 1 open 2 shut {words}", 6)

    def test_lines_that_end_too_early(self):
        self.check("drawers", 1, 2)
        self.check("drawers ", 1, 2)
        self.check("  drawers\n2", 1, 2)
        words = "bar 1 open 2 shut".split(" ")
        for many in range(5):
            self.check_bar(" ".join(words[:many]), many + 1)
            self.check_bar("  " + "   ".join(words[:many]) + " ", many + 1)

    def test_further_lines_of_drawers(self):
        self.check("drawers 2\ndrawers 2", 2, 1)
        self.check(TEXT + "\ndrawers 2", 4, 1)
        self.check(TEXT + "\n" + TEXT, 4, 1)

    def test_bars_that_are_not_above_the_one_ahead(self):
        for drawers in (2, 3, 7):
            lines = write(Cabinet(drawers, tuple(all_bars(drawers)))).split("\n")
            for at in range(1, len(lines), 5):
                twice = [*lines[:at + 1], lines[at], *lines[at + 1:]]
                self.check("\n".join(twice), at + 2, 6)
                if at + 1 < len(lines):
                    turned = [*lines[:at], lines[at + 1], lines[at], *lines[at + 2:]]
                    self.check("\n".join(turned), at + 2, 6)
        # The one directly ahead counts for the words "open" and "shut", too.
        self.check("drawers 2\nbar 0 shut 1 open\nbar 0 open 1 shut", 3, 6)
        self.check("drawers 2\nbar 0 open 1 shut\nbar 0 open 1 open", 3, 6)
        self.check("drawers 3\nbar 0 open 2 open\nbar 0 open 1 shut", 3, 6)
        self.check("drawers 2\nbar 1 open 0 open\nbar 0 open 1 open\nbar 0 open 1 shut", 3, 6)

    def test_a_word_that_cannot_stand_ahead_of_the_order(self):
        self.check("drawers 2\nbar 1 open 0 open\nbar 0 open 0 open", 3, 4)
        self.check("drawers 2\nbar 1 open 0 open\nbar 0 open 1", 3, 5)
        self.check("drawers 2\nbar 1 open 0 open\nbar 0 open 1 x", 3, 5)
        self.check("drawers 2\nbar 1 open 0 open\nbar 0 open 1 open x", 3, 6)
        self.check("drawers 2\nbar 1 open 0 open\nbar", 3, 2)

    def test_other_white_space(self):
        for sign in OTHER_WHITE_SPACE:
            self.check(sign, 1, 1)
            self.check(f"drawers{sign}2", 1, 1)
            self.check(f"{sign}drawers 2", 1, 1)
            self.check(f"drawers {sign} 2", 1, 2)
            self.check(f"drawers 2{sign}", 1, 2)
            self.check(f"drawers 2 {sign}", 1, 3)
            self.check(f"drawers 2{sign}\nbar 0 open 1 shut", 1, 2)
            self.check(f"drawers 2{sign}bar 0 open 1 shut", 1, 2)
            self.check_bar(f"bar 1 open 2 shut{sign}", 5)
            self.check_bar(f"bar 1 open 2 shut {sign}", 6)
            self.check_bar(f"bar 1{sign}open 2 shut", 2)
            self.check_bar(f"bar 1 open{sign}2 shut", 3)
            self.check_bar(f"bar 1 open 2{sign} shut", 4)
            self.check_bar(sign, 1)
        self.check(TEXT.replace("\n", "\r\n"), 1, 2)
        self.check(TEXT.replace("\n", "\r"), 1, 2)

    def test_the_first_of_two_faults(self):
        self.check("drawer 8\nbar x", 1, 1)
        self.check("drawers 8 x", 1, 2)
        self.check("drawers 2 x\nx", 1, 3)
        self.check("drawers 2\nbar 2 x 2 x x\nx", 2, 2)
        self.check("drawers 2\nbar 0 x 0 x x", 2, 3)
        self.check("drawers 2\nbar 0 open 0 x x", 2, 4)
        self.check("drawers 2\nbar 0 open 1 x x", 2, 5)
        self.check("drawers 2\nbar 0 open 1 shut x\nbar 0 open 0", 2, 6)
        self.check("drawers 2\nbar 1 open 0 shut\nbar 0 open 1 shut\nbar 0 open 0 shut", 3, 6)
        self.check("drawers 2\nbar 0 open\nbar 0 open 0 shut", 2, 4)

    def test_any_string(self):
        for text in ("x", "\x00", "drawers\x002", "\ud800", "{}", "\u00e9" * 1000, "drawers 2\n\x00", "-", "\\n"):
            self.assertIs(raised_kind(read, text), InvalidText)


class TestAgainstSlowReading(unittest.TestCase):

    def test_texts_with_changed_words(self):
        chosen = random.Random(122)
        words = [
            "drawers", "bar", "open", "shut", "", " ", "x", "\t", "-1", "00", "0", "1", "2", "3", "4", "5", "6", "7",
            "8",
        ]
        read_well = 0
        for cabinet in [*chosen_cabinets(123, 2, 300, 8), *chosen_cabinets(124, 3, 500, 12), Cabinet(1, ())] * 3:
            parts = [line.split(" ") for line in write(cabinet).split("\n")]
            for _ in range(chosen.randint(0, 3)):
                line = chosen.choice(parts)
                place = chosen.randrange(len(line) + 1)
                line[place:place + chosen.randint(0, 1)] = [chosen.choice(words)][:chosen.randint(0, 3)]
            if chosen.random() < 0.1:
                chosen.shuffle(parts)
            text = "\n".join(" ".join(line) for line in parts)
            told = slow_read(text)
            read_well += isinstance(told, tuple)
            with self.subTest(text=text):
                self.assertEqual(what_is_read(text), told)
        self.assertGreater(read_well, 200)

    def test_texts_of_chosen_signs(self):
        chosen = random.Random(125)
        for _ in range(3000):
            text = "".join(chosen.choice(("drawers", "bar", "open", "shut", "0", "1", "2", " ", " ", " ", "\n"))
                           for _ in range(chosen.randint(0, 16)))
            for told in (text, "drawers 2\n" + text, "drawers 3\nbar 0 open 1 open\nbar " + text):
                with self.subTest(text=told):
                    self.assertEqual(what_is_read(told), slow_read(told))


class TestEqualCalls(unittest.TestCase):

    def test_equal_calls_give_equal_results(self):
        self.assertEqual(read(TEXT), read(TEXT))
        self.assertEqual(write(ONE_OPEN), write(Cabinet(2, ONE_OPEN.bars)))

    def test_a_list_that_is_changed_afterwards(self):
        lines = TEXT.split("\n")
        cabinet = read("\n".join(lines))
        lines.clear()
        self.assertEqual(cabinet, ONE_OPEN)
        write(cabinet).split("\n").clear()
        self.assertEqual(write(cabinet), TEXT)

    def test_wrong_texts_change_nothing(self):
        cabinet = read(TEXT)
        for text in ("", TEXT + "\n", TEXT + "\nbar 0 open 1 shut"):
            self.assertIs(raised_kind(read, text), InvalidText)
            self.assertEqual(read(TEXT), cabinet)


if __name__ == "__main__":
    unittest.main()

"""Cabinets as texts: a line for the drawers, and one for each bar."""

from drawerlocks.cabinets import Cabinet, check_cabinet
from drawerlocks.errors import InvalidText
from drawerlocks.forms import MOST_DRAWERS, WORDS


def write(cabinet):
    """The text of the cabinet."""
    check_cabinet(cabinet)
    lines = [f"drawers {cabinet.drawers}"]
    lines.extend([f"bar {drawer} {way} {other} {stand}" for drawer, way, other, stand in cabinet.bars])
    return "\n".join(lines)


def read(text):
    """The cabinet of the text; InvalidText for the text of none."""
    lines = [words_of(line) for line in text.split("\n")]
    drawers = read_drawers(lines[0])
    bars = []
    for line, words in enumerate(lines[1:], start=2):
        bar = read_bar(drawers, line, words)
        if bars and bar <= bars[-1]:
            # All words can stand there, so the one behind them is told.
            raise InvalidText(line, len(words) + 1)
        bars.append(bar)
    return Cabinet(drawers, tuple(bars))


def words_of(line):
    """The list of the words of a line."""
    # Only spaces part words: other white space is part of a word, which then cannot stand there.
    return [word for word in line.split(" ") if word != ""]


def read_drawers(words):
    """The number of drawers that the first line tells."""
    check_words(1, words, [["drawers"], [str(drawers) for drawers in range(1, MOST_DRAWERS + 1)]])
    return int(words[1])


def read_bar(drawers, line, words):
    """The bar between two of so many drawers that a further line tells."""
    names = [str(drawer) for drawer in range(drawers)]
    others = [name for name in names if name not in words[1:2]]
    check_words(line, words, [["bar"], names, WORDS, others, WORDS])
    return int(words[1]), words[2], int(words[3]), words[4]


def check_words(line, words, allowed):
    """InvalidText for the first word that is none of those allowed at its place, for a missing or a further one."""
    for place, (word, choices) in enumerate(zip(words, allowed), start=1):
        if word not in choices:
            raise InvalidText(line, place)
    if len(words) != len(allowed):
        raise InvalidText(line, min(len(words), len(allowed)) + 1)

"""Slow answers that are computed from the words of the document alone, and cabinets to compare with them."""

import itertools
import random

from drawerlocks.cabinets import Cabinet


def all_bars(drawers):
    return [
        (drawer, way, other, stand)
        for drawer in range(drawers) for way in ("open", "shut") for other in range(drawers) if other != drawer
        for stand in ("open", "shut")
    ]


def all_standings(drawers):
    return ["".join(signs) for signs in itertools.product("os", repeat=drawers)]


def all_patterns(drawers):
    return ["".join(signs) for signs in itertools.product("os?", repeat=drawers)]


def all_sets(drawers):
    return [some for many in range(drawers + 1) for some in itertools.combinations(range(drawers), many)]


def parts_of(things):
    """All tuples of some of the things, the small ones first, those of one size as Python orders them."""
    for many in range(len(things) + 1):
        yield from itertools.combinations(things, many)


def slow_end(bars, standing, row):
    """Where the row ends; None if a pull does not go."""
    stands = ["open" if sign == "o" else "shut" for sign in standing]
    for drawer in row:
        goal = "shut" if stands[drawer] == "open" else "open"
        for barred, way, other, stand in bars:
            if (barred, way) == (drawer, goal) and stands[other] != stand:
                return None
        stands[drawer] = goal
    return "".join(word[0] for word in stands)


def slow_pulls(cabinet):
    """For each standing the standing behind each pull, None if it does not go."""
    return {
        standing: [slow_end(cabinet.bars, standing, (drawer,)) for drawer in range(cabinet.drawers)]
        for standing in all_standings(cabinet.drawers)
    }


def slow_rows(cabinet, standing):
    """For each standing that can be led to, its first row of all rows, by length, then in ascending order."""
    pulls = slow_pulls(cabinet)
    rows = {}
    ends = [((), standing)]
    for _ in range(2 ** cabinet.drawers):
        # Among the rows of one length those to the same standing go on alike: the least one stands for them.
        least = {}
        for row, end in sorted(ends):
            least.setdefault(end, row)
        for end, row in least.items():
            rows.setdefault(end, row)
        longer = [
            (row + (drawer,), pulls[end][drawer]) for end, row in least.items() for drawer in range(cabinet.drawers)
        ]
        ends = [(row, end) for row, end in longer if end is not None]
    return rows


def slow_first_rows(cabinet):
    return slow_rows(cabinet, "s" * cabinet.drawers)


def first_of_rows(rows):
    """The shortest, then least of the rows, None if there are none."""
    return min(rows, key=lambda row: (len(row), row), default=None)


def slow_row(rows, pattern):
    return first_of_rows([
        row for end, row in rows.items()
        if all(wanted in ("?", sign) for wanted, sign in zip(pattern, end))
    ])


def all_rows(cabinet, length):
    """All rows of so many pulls, none left out, each with the standing behind it."""
    pulls = slow_pulls(cabinet)
    rows = [((), "s" * cabinet.drawers)]
    for _ in range(length):
        rows = [
            (row + (drawer,), beyond) for row, end in rows for drawer, beyond in enumerate(pulls[end])
            if beyond is not None
        ]
    return rows


def two_drawers():
    """All cabinets of two drawers."""
    return [Cabinet(2, bars) for bars in parts_of(all_bars(2))]


def chosen_cabinets(seed, drawers, times, most):
    """Some cabinets of so many drawers, with one bar to most."""
    chosen = random.Random(seed)
    return [
        Cabinet(drawers, tuple(sorted(chosen.sample(all_bars(drawers), chosen.randint(1, most)))))
        for _ in range(times)
    ]


def some_cabinets():
    """All cabinets of one and two drawers, and some of more."""
    return [Cabinet(1, ()), *two_drawers(), *chosen_cabinets(4, 3, 60, 9), *chosen_cabinets(5, 4, 12, 12)]

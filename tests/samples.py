"""Cabinets and wrong values that several tests share."""

from drawerlocks.cabinets import Cabinet

FREE = Cabinet(2, ())
ONE_OPEN = Cabinet(2, ((0, "open", 1, "shut"), (1, "open", 0, "shut")))
# Neither drawer is ever opened.
FAST = Cabinet(2, ((0, "open", 1, "open"), (1, "open", 0, "open")))
# The drawers are opened in their order only.
STAIRS = Cabinet(3, ((1, "open", 0, "open"), (2, "open", 1, "open")))
# Drawer 1 is opened only while 0 stands open and 2 stands shut.
MANY_BARS = Cabinet(3, ((0, "shut", 1, "shut"), (1, "open", 0, "open"), (1, "open", 2, "shut")))

CABINETS = (FREE, ONE_OPEN, FAST, STAIRS, MANY_BARS, Cabinet(1, ()), Cabinet(7, ()))

NO_CABINETS = (
    None, True, False, 0, 2, -1, "", "ss", (), (2, ()), [2, []], {}, {"drawers": 2, "bars": ()}, [None], (None,),
)
NO_STANDINGS_OF_TWO = (
    None, True, 0, 2, "", "s", "sss", "s?", "??", "OS", "sx", "s ", "ss\n", "\u043es", ("s", "s"), ["s", "s"],
    {"s": "s"}, (), [],
)
NO_PATTERNS_OF_TWO = (
    None, True, 0, 2, "", "?", "???", "s", "sss", "?S", "?x", "s*", "? ", ("?", "?"), ["s", "s"], {}, (), [],
)
NO_DRAWERS_OF_TWO = (None, True, False, -1, 2, 7, 10 ** 30, -10 ** 30, "0", "", (0,), [0], {}, {0: 0}, (), [])
NO_SETS_OF_TWO = (
    None, True, False, 0, 1, 2, -1, "", "0", "01", "oo", [], [0], [0, 1], {}, {0: 1}, (True,), (False,), (0, True),
    (False, 1), (2,), (-1,), (0, 2), (-1, 0), (10 ** 30,), (0, 0), (1, 1), (1, 0), (0, 1, 1), (0, 0, 1), (0, 1, 0),
    ("0",), (None,), (0, None), ((0,),), ([0],), ({},), (0, "1"), ((),), ((0, 1),),
)


def raised(function, *arguments):
    """The error that a call raises, None if it raises none."""
    try:
        function(*arguments)
    except ValueError as error:
        return error
    return None


def raised_kind(function, *arguments):
    """The class of the error that a call raises."""
    return type(raised(function, *arguments))

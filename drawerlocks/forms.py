"""The forms of plain values, without a cabinet: drawers, sets, bars, standings, patterns, tries, costs, orders."""

MOST_DRAWERS = 7
MOST_COST = 10 ** 30
WORDS = ("open", "shut")
SIGNS = {"open": "o", "shut": "s"}
STANDING_SIGNS = "os"
PATTERN_SIGNS = "os?"


def is_integer(value):
    """Whether the value is an integer."""
    # To Python True and False are integers, to this package they are none.
    return isinstance(value, int) and not isinstance(value, bool)


def is_drawer_count(value):
    """Whether a cabinet can have so many drawers."""
    return is_integer(value) and 1 <= value <= MOST_DRAWERS


def is_drawer(drawers, value):
    """Whether the value is one of so many drawers."""
    return is_integer(value) and 0 <= value < drawers


def is_set(drawers, value):
    """Whether the value is an ascending tuple of unlike ones of so many drawers."""
    if not isinstance(value, tuple) or not all([is_drawer(drawers, drawer) for drawer in value]):
        return False
    return all([one < other for one, other in zip(value, value[1:])])


def is_pair(drawers, value):
    """Whether the value is a pair (one, other) of so many drawers, one < other."""
    return is_set(drawers, value) and len(value) == 2


def is_bar(drawers, value):
    """Whether the value is a bar between two of so many drawers."""
    if not isinstance(value, tuple) or len(value) != 4:
        return False
    drawer, way, other, stand = value
    if not is_drawer(drawers, drawer) or not is_drawer(drawers, other):
        return False
    return drawer != other and way in WORDS and stand in WORDS


def all_bars(drawers):
    """The ascending list of all bars that can lie between so many drawers."""
    return [
        (drawer, way, other, stand)
        for drawer in range(drawers) for way in WORDS for other in range(drawers) if other != drawer for stand in WORDS
    ]


def is_standing(drawers, value):
    """Whether the value is a standing of so many drawers."""
    return has_signs(drawers, value, STANDING_SIGNS)


def is_pattern(drawers, value):
    """Whether the value is a pattern of so many drawers."""
    return has_signs(drawers, value, PATTERN_SIGNS)


def is_try(drawers, value):
    """Whether the value tells of a pull of one of so many drawers whether it went in a standing."""
    if not isinstance(value, tuple) or len(value) != 3:
        return False
    standing, drawer, went = value
    return is_standing(drawers, standing) and is_drawer(drawers, drawer) and isinstance(went, bool)


def is_costs(drawers, value):
    """Whether the value is a tuple of a cost for each of so many drawers."""
    if not isinstance(value, tuple) or len(value) != drawers:
        return False
    return all([is_integer(cost) and 0 <= cost <= MOST_COST for cost in value])


def is_order(drawers, value):
    """Whether the value is a tuple of all of so many drawers, each once."""
    if not isinstance(value, tuple) or not all([is_drawer(drawers, drawer) for drawer in value]):
        return False
    return sorted(value) == list(range(drawers))


def has_signs(drawers, value, signs):
    """Whether the value is a string of one of these signs for each drawer."""
    if not isinstance(value, str) or len(value) != drawers:
        return False
    return all([sign in signs for sign in value])


def first_standing(drawers):
    """The standing in which all of so many drawers are shut."""
    return SIGNS["shut"] * drawers


def fits(standing, pattern):
    """Whether the standing fits the pattern."""
    return all([wanted in ("?", sign) for sign, wanted in zip(standing, pattern)])


def hinders(bar, standing, drawer):
    """Whether the bar stands against the pull of the drawer in the standing."""
    barred, way, other, stand = bar
    # A drawer that already stands as the bar's way would leave it is moved the other way.
    if barred != drawer or standing[drawer] == SIGNS[way]:
        return False
    return standing[other] != SIGNS[stand]


def moved(standing, drawer):
    """The standing in which this drawer alone stands the other way."""
    word = "open" if standing[drawer] == SIGNS["shut"] else "shut"
    return standing[:drawer] + SIGNS[word] + standing[drawer + 1:]

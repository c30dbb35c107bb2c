"""Drawers that stand open together at some time, and tables of standings where they never do."""

from drawerlocks.cabinets import check_cabinet, free_drawers
from drawerlocks.errors import BadSet
from drawerlocks.forms import SIGNS, first_standing, fits, is_set, is_standing, moved
from drawerlocks.reach import first_row_to, first_rows, reached


def open_together(cabinet, some):
    """The shortest, then least row behind which all of some are open, None if there is none."""
    check_cabinet(cabinet)
    check_set(cabinet, some)
    return first_row_to(cabinet, first_standing(cabinet.drawers), open_pattern(cabinet, some))


def never_together(cabinet):
    """The ascending list of the pairs of drawers that never are open together."""
    check_cabinet(cabinet)
    standings = reached(cabinet)
    return [
        (one, other) for one in range(cabinet.drawers) for other in range(one + 1, cabinet.drawers)
        if not any_fits(standings, open_pattern(cabinet, (one, other)))
    ]


def most_open(cabinet):
    """The most drawers that are open together, and the shortest, then least row behind which so many are."""
    check_cabinet(cabinet)
    rows = first_rows(cabinet)
    most = max([open_count(standing) for standing in rows])
    # These rows come in the order that is asked for: the first one counts.
    return most, [row for standing, row in rows.items() if open_count(standing) == most][0]


def paper(cabinet, some):
    """A table for the set, None if its drawers are open together at some time."""
    check_cabinet(cabinet)
    check_set(cabinet, some)
    standings = reached(cabinet)
    if any_fits(standings, open_pattern(cabinet, some)):
        return None
    return tuple(standings)


def right_paper(cabinet, some, value):
    """Whether any value is a table for the set."""
    check_cabinet(cabinet)
    check_set(cabinet, some)
    if not isinstance(value, tuple):
        return False
    if not all([is_standing(cabinet.drawers, standing) for standing in value]):
        return False
    if first_standing(cabinet.drawers) not in value or any_fits(value, open_pattern(cabinet, some)):
        return False
    return is_closed(cabinet, value)


def is_closed(cabinet, standings):
    """Whether each pull that goes in one of the standings leads to one of them."""
    told = {standing: True for standing in standings}
    for standing in told:
        for drawer in free_drawers(cabinet, standing):
            if moved(standing, drawer) not in told:
                return False
    return True


def open_count(standing):
    """How many drawers are open in the standing."""
    return standing.count(SIGNS["open"])


def any_fits(standings, pattern):
    """Whether one of the standings fits the pattern."""
    return any([fits(standing, pattern) for standing in standings])


def open_pattern(cabinet, some):
    """The pattern that just those standings fit in which all of some are open."""
    return "".join([SIGNS["open"] if drawer in some else "?" for drawer in range(cabinet.drawers)])


def check_set(cabinet, some):
    """BadSet for any value that is no ascending tuple of unlike drawers."""
    if not is_set(cabinet.drawers, some):
        raise BadSet("no set of drawers of this cabinet")

"""What is sure of rows of pulls that were not all seen."""

from drawerlocks.cabinets import check_cabinet
from drawerlocks.counts import counts_behind
from drawerlocks.errors import BadSeen
from drawerlocks.forms import first_standing, is_drawer
from drawerlocks.reach import reached_pulls

MOST_SEEN = 60


def fits_many(cabinet, seen):
    """How many rows agree."""
    check_cabinet(cabinet)
    check_seen(cabinet, seen)
    return sum(list(counts_after(cabinet, seen).values()))


def first_fit(cabinet, seen):
    """The least row that agrees, None if there is none."""
    check_cabinet(cabinet)
    check_seen(cabinet, seen)
    standing = first_standing(cabinet.drawers)
    row = []
    for onward in pulls_onward(cabinet, seen):
        if standing not in onward:
            return None
        drawer, standing = onward[standing][0]
        row.append(drawer)
    return tuple(row)


def stands_after(cabinet, seen):
    """The ascending list of the standings to which rows that agree lead."""
    check_cabinet(cabinet)
    check_seen(cabinet, seen)
    return sorted([standing for standing, many in counts_after(cabinet, seen).items() if many > 0])


def sure_pulls(cabinet, seen):
    """For each pull the drawer that all rows that agree have there, or None; None if no row agrees."""
    check_cabinet(cabinet)
    check_seen(cabinet, seen)
    standings = [first_standing(cabinet.drawers)]
    told = []
    for onward in pulls_onward(cabinet, seen):
        pulls = [pull for standing in standings for pull in onward.get(standing, [])]
        if not pulls:
            return None
        drawers = sorted({drawer for drawer, _ in pulls})
        told.append(drawers[0] if len(drawers) == 1 else None)
        standings = sorted({beyond for _, beyond in pulls})
    return tuple(told)


def counts_after(cabinet, seen):
    """For each standing that is reached, to how many rows that agree it is the end."""
    pulls = reached_pulls(cabinet)
    counts = {standing: 0 for standing in pulls}
    counts[first_standing(cabinet.drawers)] = 1
    for thing in seen:
        counts = counts_behind(pulls_agreeing(pulls, thing), counts)
    return counts


def pulls_onward(cabinet, seen):
    """For each pull the pulls, by the standing ahead, behind which the rest of what was seen can be pulled."""
    pulls = reached_pulls(cabinet)
    goals = pulls
    found = []
    # The last pull is looked at first: only from its end on it is known whether a row can go on.
    for thing in reversed(seen):
        agreeing = pulls_agreeing(pulls, thing)
        onward = {
            standing: [(drawer, beyond) for drawer, beyond in agreeing[standing] if beyond in goals]
            for standing in pulls
        }
        goals = {standing: onward[standing] for standing in pulls if onward[standing]}
        found.append(goals)
    return found[::-1]


def pulls_agreeing(pulls, thing):
    """Those of the pulls that are of the drawer that was seen, all of them if it was not seen."""
    return {
        standing: [(drawer, beyond) for drawer, beyond in pulls[standing] if thing in (None, drawer)]
        for standing in pulls
    }


def check_seen(cabinet, seen):
    """BadSeen for any value that is no list or tuple of so few things, each a drawer or None."""
    if not isinstance(seen, (list, tuple)) or len(seen) > MOST_SEEN:
        raise BadSeen(None)
    for index, thing in enumerate(seen):
        if thing is not None and not is_drawer(cabinet.drawers, thing):
            raise BadSeen(index)

"""Cabinets that have the same rows, and bars that are of no use."""

from itertools import combinations

from drawerlocks.cabinets import bars_against, check_cabinet, goes
from drawerlocks.errors import Unlike
from drawerlocks.reach import first_rows


def alike(one, other):
    """Whether the two cabinets have the same rows."""
    return first_apart(one, other) is None


def first_apart(one, other):
    """The shortest, then least tuple of drawers that is a row of just one of both, None if they are alike."""
    check_cabinet(one)
    check_cabinet(other)
    if one.drawers != other.drawers:
        raise Unlike("unlike numbers of drawers")
    # Up to the first standing in which unlike pulls go, both have the same rows in the same order.
    for standing, row in first_rows(one).items():
        for drawer in range(one.drawers):
            if goes(one, standing, drawer) != goes(other, standing, drawer):
                return (*row, drawer)
    return None


def needless(cabinet):
    """The ascending list of the bars without which, each left out alone, the cabinet is alike."""
    check_cabinet(cabinet)
    needs = barred_pulls(cabinet)
    return [bar for bar in cabinet.bars if [bar] not in needs]


def fewest_bars(cabinet):
    """The least of the smallest tuples of the cabinet's bars with which alone it is alike."""
    check_cabinet(cabinet)
    return fewest_of_each(barred_pulls(cabinet))


def barred_pulls(cabinet):
    """For each pull that does not go in a reached standing the list of the bars against it."""
    barred = []
    for standing in first_rows(cabinet):
        for drawer in range(cabinet.drawers):
            against = bars_against(cabinet, standing, drawer)
            if against:
                barred.append(against)
    return barred


def fewest_of_each(needs):
    """The least of the smallest ascending tuples that hold a bar of each need, a list of bars against one pull."""
    groups = {}
    for need in needs:
        groups.setdefault(need[0][:2], []).append(need)
    # All bars against a pull have the pull's drawer and way, and bars are ascending by these two first:
    # so the bars for each drawer and way are chosen by themselves, and the tuples for them joined.
    chosen = []
    for group in sorted(list(groups)):
        chosen.extend(fewest_of_group(groups[group]))
    return tuple(chosen)


def fewest_of_group(needs):
    """As fewest_of_each, for needs of one drawer and way."""
    bars = sorted({bar for need in needs for bar in need})
    # Each need is a number with a bit for each of its bars, since very many choices are tried.
    masks = sorted({sum([1 << bars.index(bar) for bar in need]) for need in needs})
    for many in range(len(bars)):
        for places in combinations(range(len(bars)), many):
            if meets_all(sum([1 << place for place in places]), masks):
                return [bars[place] for place in places]
    return bars


def meets_all(chosen, masks):
    """Whether the number has a bit of each of the masks."""
    for mask in masks:
        if not chosen & mask:
            return False
    return True

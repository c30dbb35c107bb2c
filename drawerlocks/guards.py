"""The fewest bars to be added to a cabinet so that told drawers never are open together."""

from itertools import combinations

from drawerlocks.cabinets import check_cabinet, check_few_drawers, check_number
from drawerlocks.errors import BadPairs
from drawerlocks.forms import all_bars, first_standing, hinders, is_pair
from drawerlocks.reach import reached_pulls
from drawerlocks.together import any_fits, open_pattern

MOST_GUARDED = 4
MOST_ADDED = 2


def guards(cabinet, pairs, most):
    """The ascending list of the smallest tuples of added bars with which no pair is open together at any time."""
    check_cabinet(cabinet)
    check_few_drawers(cabinet, MOST_GUARDED)
    check_pairs(cabinet, pairs)
    check_number(most, 0, MOST_ADDED)
    spare = [bar for bar in all_bars(cabinet.drawers) if bar not in cabinet.bars]
    pulls = reached_pulls(cabinet)
    apart = [open_pattern(cabinet, pair) for pair in pairs]
    for many in range(most + 1):
        found = [added for added in combinations(spare, many) if is_guarded(cabinet, pulls, added, apart)]
        if found:
            return found
    return []


def is_guarded(cabinet, pulls, added, apart):
    """Whether with the added bars each drawer is opened at some time, and no pattern of apart ever is fitted."""
    standings = reached_beside(cabinet, pulls, added)
    if any([any_fits(standings, pattern) for pattern in apart]):
        return False
    return all([any_fits(standings, open_pattern(cabinet, (drawer,))) for drawer in range(cabinet.drawers)])


def reached_beside(cabinet, pulls, added):
    """The list of the standings that are reached with the added bars, pulls being those that go without them."""
    # More bars let fewer pulls go: only what is reached without them must be looked at.
    first = first_standing(cabinet.drawers)
    standings = {first: True}
    queue = [first]
    while queue:
        standing = queue.pop()
        for drawer, beyond in pulls[standing]:
            if beyond not in standings and not any([hinders(bar, standing, drawer) for bar in added]):
                standings[beyond] = True
                queue.append(beyond)
    return list(standings)


def check_pairs(cabinet, pairs):
    """BadPairs for any value that is no list or tuple of pairs of drawers."""
    if not isinstance(pairs, (list, tuple)):
        raise BadPairs(None)
    for index, pair in enumerate(pairs):
        if not is_pair(cabinet.drawers, pair):
            raise BadPairs(index)

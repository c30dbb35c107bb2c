"""Rows of pulls, each of which costs something."""

from heapq import heappop, heappush

from drawerlocks.cabinets import check_cabinet, check_pattern
from drawerlocks.errors import BadCosts
from drawerlocks.forms import first_standing, fits, is_costs
from drawerlocks.reach import reached_pulls


def cheapest(cabinet, costs, pattern):
    """The least cost of rows to a standing that fits, and the shortest, then least such row, None if there is none."""
    check_cabinet(cabinet)
    check_costs(cabinet, costs)
    check_pattern(cabinet, pattern)
    pulls = reached_pulls(cabinet)
    done = {}
    # The rows come by cost, then by length, then in their order: the first one to a standing is the one that counts.
    queue = [(0, 0, (), first_standing(cabinet.drawers))]
    while queue:
        cost, length, row, standing = heappop(queue)
        if standing in done:
            continue
        if fits(standing, pattern):
            return cost, row
        done[standing] = True
        for drawer, beyond in pulls[standing]:
            if beyond not in done:
                heappush(queue, (cost + costs[drawer], length + 1, (*row, drawer), beyond))
    return None


def check_costs(cabinet, costs):
    """BadCosts for any value that is no tuple of a cost of each drawer's pull."""
    if not is_costs(cabinet.drawers, costs):
        raise BadCosts("no costs of this cabinet's pulls")

"""Standings from which no drawer, or not the right one, can be moved any more."""

from drawerlocks.cabinets import check_cabinet, check_drawer
from drawerlocks.forms import SIGNS, first_standing
from drawerlocks.reach import first_rows, reached_pulls


def dead_end(cabinet):
    """The shortest, then least row behind which no pull goes, None if there is none."""
    check_cabinet(cabinet)
    pulls = reached_pulls(cabinet)
    return first_row_beside(cabinet, [standing for standing in pulls if pulls[standing]])


def no_return(cabinet):
    """The shortest, then least row behind which none leads to the first standing, None if there is none."""
    check_cabinet(cabinet)
    pulls = reached_pulls(cabinet)
    return first_row_beside(cabinet, leading_to(pulls, [first_standing(cabinet.drawers)]))


def frozen(cabinet, drawer):
    """The shortest, then least row behind which none moves the drawer, None if there is none."""
    check_cabinet(cabinet)
    check_drawer(cabinet, drawer)
    pulls = reached_pulls(cabinet)
    moving = [standing for standing in pulls if drawer in [pulled for pulled, _ in pulls[standing]]]
    return first_row_beside(cabinet, leading_to(pulls, moving))


def never_opened(cabinet):
    """The ascending list of the drawers that no row opens."""
    check_cabinet(cabinet)
    standings = list(first_rows(cabinet))
    return [
        drawer for drawer in range(cabinet.drawers)
        if not any([standing[drawer] == SIGNS["open"] for standing in standings])
    ]


def first_row_beside(cabinet, standings):
    """The shortest, then least row that leads to none of these standings, None if there is none."""
    for standing, row in first_rows(cabinet).items():
        if standing not in standings:
            return row
    return None


def leading_to(pulls, goals):
    """The list of the standings from which a row, perhaps of no pulls, leads to one of the goals."""
    ahead = {standing: [] for standing in pulls}
    for standing in pulls:
        for _, beyond in pulls[standing]:
            ahead[beyond].append(standing)
    leading = {goal: True for goal in goals}
    queue = list(goals)
    while queue:
        place = queue.pop()
        for standing in ahead[place]:
            if standing not in leading:
                leading[standing] = True
                queue.append(standing)
    return list(leading)

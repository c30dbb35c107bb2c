"""Rows of pulls that come back to where they began, and the longest rows, if there is an end."""

from drawerlocks.cabinets import check_cabinet, check_standing, free_drawers
from drawerlocks.forms import first_standing, moved
from drawerlocks.reach import first_rows, reached_pulls, rows_from


def ring_at(cabinet, standing):
    """The shortest, then least ring of any standing, None if there is none."""
    check_cabinet(cabinet)
    check_standing(cabinet, standing)
    return ring_from(cabinet, standing)


def first_ring(cabinet):
    """The pair of a row and the shortest ring of all standings that are reached, None if there is none."""
    check_cabinet(cabinet)
    shortest = None
    # The first of several equally short rings counts, since these rows come by length, then in their order.
    for standing, row in first_rows(cabinet).items():
        ring = ring_from(cabinet, standing)
        if ring is not None and (shortest is None or len(ring) < len(shortest[1])):
            shortest = (row, ring)
    return shortest


def longest_row(cabinet):
    """The pair of the length of the longest rows and the least of them, None if there is a ring."""
    check_cabinet(cabinet)
    pulls = reached_pulls(cabinet)
    left = most_left(pulls)
    standing = first_standing(cabinet.drawers)
    if standing not in left:
        return None
    row = []
    while left[standing] > 0:
        wanted = left[standing] - 1
        drawer, standing = [pull for pull in pulls[standing] if left[pull[1]] == wanted][0]
        row.append(drawer)
    return len(row), tuple(row)


def ring_from(cabinet, standing):
    """As ring_at, of arguments that were looked at."""
    # To the last standing ahead of the end a shortest ring takes the shortest, then least row.
    for last, row in rows_from(cabinet, standing).items():
        for drawer in free_drawers(cabinet, last):
            if moved(last, drawer) == standing:
                return (*row, drawer)
    return None


def most_left(pulls):
    """For each standing from which no row leads to a ring, how many pulls the longest rows from it have."""
    left = {}
    for many in range(len(pulls)):
        ended = [
            standing for standing in pulls
            if standing not in left and all([beyond in left for _, beyond in pulls[standing]])
        ]
        left.update({standing: many for standing in ended})
    return left

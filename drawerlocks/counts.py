"""How many rows of pulls there are."""

from drawerlocks.cabinets import check_cabinet, check_number, check_pattern
from drawerlocks.forms import first_standing, fits
from drawerlocks.reach import reached_pulls

MOST_PULLS = 60


def count_rows(cabinet, length):
    """The number of rows of so many pulls."""
    check_cabinet(cabinet)
    check_number(length, 0, MOST_PULLS)
    return sum(list(counts_by_end(cabinet, length).values()))


def count_to(cabinet, length, pattern):
    """The number of rows of so many pulls that lead to standings that fit the pattern."""
    check_cabinet(cabinet)
    check_number(length, 0, MOST_PULLS)
    check_pattern(cabinet, pattern)
    counts = counts_by_end(cabinet, length)
    return sum([many for standing, many in counts.items() if fits(standing, pattern)])


def counts_by_end(cabinet, length):
    """For each standing that is reached the number of rows of so many pulls that lead to it."""
    pulls = reached_pulls(cabinet)
    counts = {standing: 0 for standing in pulls}
    counts[first_standing(cabinet.drawers)] = 1
    for _ in range(length):
        counts = counts_behind(pulls, counts)
    return counts


def counts_behind(pulls, counts):
    """The counts of the rows that have one pull more than those of counts."""
    longer = {standing: 0 for standing in pulls}
    for standing, many in counts.items():
        for _, beyond in pulls[standing]:
            longer[beyond] += many
    return longer

"""How many rows of any length there are, by a rest."""

from drawerlocks.cabinets import check_cabinet, check_few_drawers, check_number
from drawerlocks.reach import reached_pulls

MOST_COUNTED = 4
MOST_LENGTH = 10 ** 30
MOST_DIVISOR = 10 ** 9


def count_rest(cabinet, length, divisor):
    """The rest of the number of rows of so many pulls, if it is divided by divisor."""
    check_cabinet(cabinet)
    check_few_drawers(cabinet, MOST_COUNTED)
    check_number(length, 0, MOST_LENGTH)
    check_number(divisor, 1, MOST_DIVISOR)
    ways = one_pull_ways(reached_pulls(cabinet))
    # How many rows go on from each standing, the first one ahead: of no pulls just one.
    counts = [1 for _ in ways]
    # Lengths are far too great to be counted through: ways are those of 1, 2, 4, 8, .. pulls.
    while length > 0:
        if length % 2 == 1:
            counts = [dot(row, counts) % divisor for row in ways]
        ways = doubled(ways, divisor)
        length //= 2
    return counts[0] % divisor


def one_pull_ways(pulls):
    """For each standing that is reached, for each such standing, how many pulls lead from the one to the other."""
    standings = list(pulls)
    ends = [[beyond for _, beyond in pulls[standing]] for standing in standings]
    return [[beyonds.count(standing) for standing in standings] for beyonds in ends]


def doubled(ways, divisor):
    """The ways of twice as many pulls, each number's rest alone."""
    columns = [[row[at] for row in ways] for at in range(len(ways))]
    return [[dot(row, column) % divisor for column in columns] for row in ways]


def dot(ones, others):
    """The sum of the products of the numbers at the same places."""
    return sum([one * other for one, other in zip(ones, others)])

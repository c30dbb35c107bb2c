"""The standings that rows of pulls lead to, by the fewest pulls."""

from drawerlocks.cabinets import check_cabinet, check_pattern, check_standing, free_drawers, goes
from drawerlocks.forms import first_standing, fits, is_drawer, moved


def reached(cabinet):
    """The ascending list of the standings that are reached."""
    check_cabinet(cabinet)
    return sorted(list(first_rows(cabinet)))


def row_to(cabinet, pattern):
    """The shortest, then least row to a standing that fits the pattern, None if there is none."""
    check_cabinet(cabinet)
    check_pattern(cabinet, pattern)
    return first_row_to(cabinet, first_standing(cabinet.drawers), pattern)


def row_between(cabinet, standing, pattern):
    """As row_to, but from any standing."""
    check_cabinet(cabinet)
    check_standing(cabinet, standing)
    check_pattern(cabinet, pattern)
    return first_row_to(cabinet, standing, pattern)


def right_row(cabinet, pattern, value):
    """Whether any value is a row from the first standing to one that fits the pattern."""
    check_cabinet(cabinet)
    check_pattern(cabinet, pattern)
    if not isinstance(value, tuple):
        return False
    if not all([is_drawer(cabinet.drawers, drawer) for drawer in value]):
        return False
    end = end_of_row(cabinet, first_standing(cabinet.drawers), value)
    return end is not None and fits(end, pattern)


def farthest(cabinet):
    """The pair of the most pulls that a reached standing needs, and of the least standing that needs so many."""
    check_cabinet(cabinet)
    rows = first_rows(cabinet)
    most = max([len(row) for row in rows.values()])
    return most, min([standing for standing, row in rows.items() if len(row) == most])


def first_rows(cabinet):
    """For each standing that is reached its shortest, then least row, these rows in that order."""
    return rows_from(cabinet, first_standing(cabinet.drawers))


def reached_pulls(cabinet):
    """For each standing that is reached, in that order, the pairs of each drawer that goes and the standing behind."""
    return {
        standing: [(drawer, moved(standing, drawer)) for drawer in free_drawers(cabinet, standing)]
        for standing in first_rows(cabinet)
    }


def rows_from(cabinet, standing):
    """For each standing that can be led to from this one its shortest, then least row, these rows in that order."""
    rows = {standing: ()}
    queue = [standing]
    done = 0
    # Short rows are lengthened first, and by the least drawers first:
    # so the first row that leads to a standing is its shortest and least one.
    while done < len(queue):
        place = queue[done]
        done += 1
        for drawer in free_drawers(cabinet, place):
            beyond = moved(place, drawer)
            if beyond not in rows:
                rows[beyond] = (*rows[place], drawer)
                queue.append(beyond)
    return rows


def first_row_to(cabinet, standing, pattern):
    """As row_between, of arguments that were looked at."""
    for end, row in rows_from(cabinet, standing).items():
        if fits(end, pattern):
            return row
    return None


def end_of_row(cabinet, standing, drawers):
    """The standing behind the pulls of these drawers from this one on, None if one of them does not go."""
    # Rows may be very long, but there are few pulls: each is looked at once.
    known = {}
    for drawer in drawers:
        pull = (standing, drawer)
        if pull not in known:
            known[pull] = moved(standing, drawer) if goes(cabinet, standing, drawer) else None
        standing = known[pull]
        if standing is None:
            return None
    return standing

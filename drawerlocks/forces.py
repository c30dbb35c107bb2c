"""Two who pull in turn: what the first one can force, and how."""

from drawerlocks.cabinets import check_cabinet, check_pattern, goes
from drawerlocks.forms import first_standing, fits, is_drawer, is_standing
from drawerlocks.reach import reached_pulls


def force(cabinet, pattern):
    """The least number of pulls of both in which the first one forces the pattern, None if it cannot."""
    check_cabinet(cabinet)
    check_pattern(cabinet, pattern)
    pulls = reached_pulls(cabinet)
    first_needs, _ = pulls_needed(pulls, pulls, pattern)
    return first_needs.get(first_standing(cabinet.drawers))


def plan_depth(cabinet, pattern, value):
    """The least number of pulls of both in which any value, a plan, forces the pattern, None if it does not."""
    check_cabinet(cabinet)
    check_pattern(cabinet, pattern)
    if not is_plan(cabinet, value):
        return None
    pulls = reached_pulls(cabinet)
    planned = {standing: drawer for standing, drawer in value}
    choices = {
        standing: [(drawer, beyond) for drawer, beyond in pulls[standing] if planned.get(standing) == drawer]
        for standing in pulls
    }
    first_needs, _ = pulls_needed(choices, pulls, pattern)
    return first_needs.get(first_standing(cabinet.drawers))


def plan(cabinet, pattern):
    """A plan that forces the pattern in as few pulls as can be, None if there is none."""
    check_cabinet(cabinet)
    check_pattern(cabinet, pattern)
    pulls = reached_pulls(cabinet)
    first_needs, other_needs = pulls_needed(pulls, pulls, pattern)
    if first_standing(cabinet.drawers) not in first_needs:
        return None
    return tuple([
        (standing, quickest(pulls[standing], other_needs, first_needs[standing]))
        for standing in sorted(list(first_needs)) if first_needs[standing] > 0
    ])


def quickest(choices, other_needs, needed):
    """The least drawer of the choices with which the pattern is forced in so many pulls."""
    return [drawer for drawer, beyond in choices if other_needs.get(beyond) == needed - 1][0]


def pulls_needed(choices, pulls, pattern):
    """In how many pulls the pattern is forced, for each standing in which it is.

    Two dicts: one for the first one to pull there, who has the choices, one for the other one, who has all pulls.
    """
    fitting = [standing for standing in pulls if fits(standing, pattern)]
    first_needs = {standing: 0 for standing in fitting}
    other_needs = {standing: 0 for standing in fitting}
    added = len(fitting)
    needed = 0
    while added > 0:
        needed += 1
        # Both are found before either is told: a round looks one pull ahead.
        first_ones = [
            standing for standing in pulls
            if standing not in first_needs and any([beyond in other_needs for _, beyond in choices[standing]])
        ]
        other_ones = [
            standing for standing in pulls
            if standing not in other_needs and is_driven(pulls[standing], first_needs)
        ]
        first_needs.update({standing: needed for standing in first_ones})
        other_needs.update({standing: needed for standing in other_ones})
        added = len(first_ones) + len(other_ones)
    return first_needs, other_needs


def is_driven(onward, first_needs):
    """Whether some pull goes, and whichever does leads to where the first one forces the pattern."""
    # Who cannot pull ends it: the pattern is not fitted any more.
    return len(onward) > 0 and all([beyond in first_needs for _, beyond in onward])


def is_plan(cabinet, value):
    """Whether the value is a plan."""
    if not isinstance(value, tuple) or not all([is_planned_pull(cabinet, pair) for pair in value]):
        return False
    standings = [standing for standing, _ in value]
    return all([one < other for one, other in zip(standings, standings[1:])])


def is_planned_pull(cabinet, value):
    """Whether the value is a pair of a standing and a drawer whose pull goes there."""
    if not isinstance(value, tuple) or len(value) != 2:
        return False
    standing, drawer = value
    if not is_standing(cabinet.drawers, standing) or not is_drawer(cabinet.drawers, drawer):
        return False
    return goes(cabinet, standing, drawer)

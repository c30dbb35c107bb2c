"""The bars that pulls tell that were tried."""

from drawerlocks.cabinets import check_drawers
from drawerlocks.errors import BadTries
from drawerlocks.forms import all_bars, hinders, is_try
from drawerlocks.likeness import fewest_of_each

MOST_TRIES = 30


def possible(drawers, tries):
    """The ascending list of the bars that stand in some tuple of bars that agree, None if none agree."""
    check_drawers(drawers)
    check_tries(drawers, tries)
    # Each bar that stands against no pull that went may be added to bars that agree.
    return bars_left(drawers, tries) if some_agree(drawers, tries) else None


def sure(drawers, tries):
    """The ascending list of the bars that stand in all tuples of bars that agree, None if none agree."""
    check_drawers(drawers)
    check_tries(drawers, tries)
    if not some_agree(drawers, tries):
        return None
    needs = needs_of(drawers, tries)
    return [bar for bar in bars_left(drawers, tries) if [bar] in needs]


def simplest(drawers, tries):
    """The least of the smallest tuples of bars that agree, None if none agree."""
    check_drawers(drawers)
    check_tries(drawers, tries)
    if not some_agree(drawers, tries):
        return None
    return fewest_of_each(needs_of(drawers, tries))


def some_agree(drawers, tries):
    """Whether some bars agree with the tries."""
    return [] not in needs_of(drawers, tries)


def needs_of(drawers, tries):
    """For each pull that did not go the ascending list of the bars, one of which at least stood against it."""
    left = bars_left(drawers, tries)
    return [
        [bar for bar in left if hinders(bar, standing, drawer)] for standing, drawer, went in tries if not went
    ]


def bars_left(drawers, tries):
    """The ascending list of the bars that stand against no pull that went."""
    return [
        bar for bar in all_bars(drawers)
        if not any([hinders(bar, standing, drawer) for standing, drawer, went in tries if went])
    ]


def check_tries(drawers, tries):
    """BadTries for any value that is no list or tuple of so few tries."""
    if not isinstance(tries, (list, tuple)) or len(tries) > MOST_TRIES:
        raise BadTries(None)
    for index, told in enumerate(tries):
        if not is_try(drawers, told):
            raise BadTries(index)

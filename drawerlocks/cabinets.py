"""Cabinets, and the pulls that go in their standings."""

from drawerlocks.errors import (
    BadBars, BadCabinet, BadDrawer, BadDrawers, BadNumber, BadPattern, BadStanding, Barred, TooMany,
)
from drawerlocks.forms import hinders, is_bar, is_drawer, is_drawer_count, is_integer, is_pattern, is_standing, moved


class Cabinet:
    """A number of drawers, and the bars between them."""

    def __init__(self, drawers, bars):
        check_drawers(drawers)
        check_bars(drawers, bars)
        self._drawers = drawers
        self._bars = bars

    @property
    def drawers(self):
        """The number of drawers."""
        return self._drawers

    @property
    def bars(self):
        """The ascending tuple of the bars."""
        return self._bars

    def __eq__(self, other):
        return isinstance(other, Cabinet) and self._drawers == other._drawers and self._bars == other._bars


def can(cabinet, standing):
    """The ascending list of the drawers whose pulls go in the standing."""
    check_cabinet(cabinet)
    check_standing(cabinet, standing)
    return free_drawers(cabinet, standing)


def barring(cabinet, standing, drawer):
    """The ascending list of the bars that stand against the pull of the drawer."""
    check_cabinet(cabinet)
    check_standing(cabinet, standing)
    check_drawer(cabinet, drawer)
    return bars_against(cabinet, standing, drawer)


def behind(cabinet, standing, drawer):
    """The standing behind the pull of the drawer; Barred if it does not go."""
    check_cabinet(cabinet)
    check_standing(cabinet, standing)
    check_drawer(cabinet, drawer)
    if not goes(cabinet, standing, drawer):
        raise Barred("this pull does not go")
    return moved(standing, drawer)


def free_drawers(cabinet, standing):
    """As can, of arguments that were looked at."""
    return [drawer for drawer in range(cabinet.drawers) if goes(cabinet, standing, drawer)]


def goes(cabinet, standing, drawer):
    """Whether no bar stands against the pull of the drawer in the standing."""
    return not bars_against(cabinet, standing, drawer)


def bars_against(cabinet, standing, drawer):
    """As barring, of arguments that were looked at."""
    return [bar for bar in cabinet.bars if hinders(bar, standing, drawer)]


def check_drawers(drawers):
    """BadDrawers for any value that is no number of drawers."""
    if not is_drawer_count(drawers):
        raise BadDrawers("no number of drawers")


def check_bars(drawers, bars):
    """BadBars for any value that is no ascending tuple of unlike bars of so many drawers."""
    if not isinstance(bars, tuple):
        raise BadBars(None)
    for index, bar in enumerate(bars):
        if not is_bar(drawers, bar):
            raise BadBars(index)
        if index > 0 and bar <= bars[index - 1]:
            raise BadBars(index)


def check_cabinet(cabinet):
    """BadCabinet for any value that is no cabinet."""
    if not isinstance(cabinet, Cabinet):
        raise BadCabinet("no cabinet")


def check_standing(cabinet, standing):
    """BadStanding for any value that is no standing of the cabinet."""
    if not is_standing(cabinet.drawers, standing):
        raise BadStanding("no standing of this cabinet")


def check_pattern(cabinet, pattern):
    """BadPattern for any value that is no pattern of the cabinet."""
    if not is_pattern(cabinet.drawers, pattern):
        raise BadPattern("no pattern of this cabinet")


def check_drawer(cabinet, drawer):
    """BadDrawer for any value that is no drawer of the cabinet."""
    if not is_drawer(cabinet.drawers, drawer):
        raise BadDrawer("no drawer of this cabinet")


def check_few_drawers(cabinet, most):
    """TooMany for a cabinet that has more drawers than most."""
    if cabinet.drawers > most:
        raise TooMany(most)


def check_number(value, least, most):
    """BadNumber for any value that is no integer from least to most."""
    if not is_integer(value) or not least <= value <= most:
        raise BadNumber(value)

"""Cabinets whose drawers have other names."""

from itertools import permutations

from drawerlocks.cabinets import Cabinet, check_cabinet
from drawerlocks.errors import BadOrder
from drawerlocks.forms import is_order


def renamed(cabinet, order):
    """The cabinet in which the drawer order[k] of this one is the drawer k."""
    check_cabinet(cabinet)
    check_order(cabinet, order)
    bars = [renamed_bar(bar, order) for bar in cabinet.bars]
    return Cabinet(cabinet.drawers, tuple(sorted(bars)))


def keeping(cabinet):
    """The ascending list of the orders by which the cabinet stays as it is."""
    check_cabinet(cabinet)
    bars = {bar: True for bar in cabinet.bars}
    return [order for order in permutations(range(cabinet.drawers)) if keeps(bars, order)]


def keeps(bars, order):
    """Whether the bars are the same ones by the order."""
    # Unlike bars are unlike by other names, too: if each is among the bars, they are just these.
    for bar in bars:
        if renamed_bar(bar, order) not in bars:
            return False
    return True


def renamed_bar(bar, order):
    """The bar by the names of the order."""
    drawer, way, other, stand = bar
    return order.index(drawer), way, order.index(other), stand


def check_order(cabinet, order):
    """BadOrder for any value that is no tuple of all drawers, each once."""
    if not is_order(cabinet.drawers, order):
        raise BadOrder("no order of this cabinet's drawers")

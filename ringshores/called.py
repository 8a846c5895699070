"""Signings with all streets turned about, and with towns called by other numbers."""

from ringshores.errors import NoOrder
from ringshores.plans import is_below, need_signing


def turned_about(plan, signing):
    """The signing in which each street leads the other way."""
    need_signing(plan, signing)
    return tuple([1 - sign for sign in signing])


def is_order(plan, thing):
    """Whether thing, of anything, is a tuple with, for each town of a plan, a new number, each once."""
    if not isinstance(thing, tuple) or not all([is_below(number, plan[0]) for number in thing]):
        return False
    return sorted(thing) == list(range(plan[0]))


def street_called(order, street, sign):
    """(street, sign): a street between the new numbers of its towns, and how it leads."""
    first, second = [order[town] for town in street]
    if first < second:
        return (first, second), sign
    return (second, first), 1 - sign


def called(plan, signing, order):
    """(plan, signing): both with the towns called by the new numbers that the order tells."""
    need_signing(plan, signing)
    if not is_order(plan, order):
        raise NoOrder()
    parts = [street_called(order, street, sign) for street, sign in zip(plan[1], signing)]
    # By the towns alone, so that streets of like towns stay in their order whatever their signs are.
    parts = sorted(parts, key=lambda part: part[0])
    streets = tuple([street for street, _ in parts])
    return (plan[0], streets), tuple([sign for _, sign in parts])

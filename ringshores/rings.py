"""What leads from one signing to another by rings alone, and what bars it."""

from ringshores.plans import is_below, is_pair, need_signings, outs, paths_of
from ringshores.split import ring_through
from ringshores.turns import leads_there


def unlike_places(first, second):
    """The places, rising, at which two tuples of one length have unlike numbers."""
    return [place for place, (number, against) in enumerate(zip(first, second)) if number != against]


def rings_between(plan, one, other):
    """Turns of rings without a street in common that lead from one signing to another with like outs."""
    paths = paths_of(plan, one)
    left = unlike_places(one, other)
    row = []
    while left:
        # Of the streets left as many lead into each town as out of it, so each lies in a ring of them.
        ring = ring_through(paths, left[0], left)
        row.append(("ring", ring))
        left = [street for street in left if street not in ring]
    return tuple(row)


def unlike_towns(plan, one, other):
    """The towns, rising, that have unlike outs in two signings."""
    return unlike_places(outs(plan, one), outs(plan, other))


def by_rings(plan, one, other):
    """("row", row), rings that lead from one signing to the other, or ("town", town) with unlike outs."""
    need_signings(plan, one, other)
    towns = unlike_towns(plan, one, other)
    if towns:
        return ("town", towns[0])
    return ("row", rings_between(plan, one, other))


def shows_by_rings(plan, one, other, thing):
    """Whether thing, of anything, shows that rings lead from one signing to the other, or that none do."""
    need_signings(plan, one, other)
    if not is_pair(thing):
        return False
    word, part = thing
    if word == "town":
        return is_below(part, plan[0]) and part in unlike_towns(plan, one, other)
    return word == "row" and leads_there(plan, one, other, ("ring",), part)

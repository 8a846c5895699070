"""Each street of a signing lies in a ring or at a shore: told is which, and by what."""

from ringshores.errors import NoStreet
from ringshores.plans import is_below, is_pair, need_signing, paths_of, towns_from, towns_left, ways_from
from ringshores.turns import is_ring, is_shore


def need_street(plan, street):
    """Refuse what is no street of a plan."""
    if not is_below(street, len(plan[1])):
        raise NoStreet()


def ring_through(paths, street, among):
    """A ring of a street and of others among some, a list of streets; None where there is none."""
    start, end = paths[street]
    ways = ways_from(end, [paths[step] for step in among])
    if start not in ways:
        return None
    return tuple(sorted([among[place] for place in ways[start]] + [street]))


def holder(plan, signing, street):
    """("ring", ring), a ring of which the street is, or ("shore", shore), one out of which it leads."""
    need_signing(plan, signing)
    need_street(plan, street)
    paths = paths_of(plan, signing)
    ring = ring_through(paths, street, list(range(len(paths))))
    if ring is None:
        # No street leads from the towns that are come to from its end to the others, of which its start is one.
        return ("shore", towns_left(plan[0], paths[street][1], paths))
    return ("ring", ring)


def is_ring_with(plan, signing, street, thing):
    """Whether thing, of anything, is a ring of which the street is."""
    return is_ring(plan, signing, thing) and street in thing


def is_shore_with(plan, signing, street, thing):
    """Whether thing, of anything, is a shore out of which the street leads."""
    start, end = paths_of(plan, signing)[street]
    return is_shore(plan, signing, thing) and start in thing and end not in thing


def shows_holder(plan, signing, street, thing):
    """Whether thing, of anything, shows that the street lies in a ring, or that it lies at a shore."""
    need_signing(plan, signing)
    need_street(plan, street)
    if not is_pair(thing):
        return False
    word, lot = thing
    if word == "ring":
        return is_ring_with(plan, signing, street, lot)
    return word == "shore" and is_shore_with(plan, signing, street, lot)


def in_rings(plan, signing):
    """The rising tuple of the streets that lie in rings."""
    need_signing(plan, signing)
    paths = paths_of(plan, signing)
    return tuple([street for street, (start, end) in enumerate(paths) if start in towns_from(end, paths)])

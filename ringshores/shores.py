"""Walks and their leads, and what leads from one signing to another by shores alone, and what bars it."""

from ringshores.errors import NoWalk
from ringshores.plans import both_ways, is_below, is_pair, is_triple, need_signing, need_signings, ways_from
from ringshores.turns import leads_there


def steps_from(plan, town, streets):
    """The steps (street, start, end) from a town along streets; None where one, of anything, is none there."""
    here = town
    steps = []
    for street in streets:
        if not is_below(street, len(plan[1])) or here not in plan[1][street]:
            return None
        one, other = plan[1][street]
        end = other if here == one else one
        steps.append((street, here, end))
        here = end
    return steps


def steps_of(plan, thing):
    """The steps of a walk, of anything; None where it is none."""
    if not is_pair(thing):
        return None
    town, streets = thing
    if not is_below(town, plan[0]) or not isinstance(streets, tuple) or streets == ():
        return None
    return steps_from(plan, town, streets)


def lead_of(signing, steps):
    """How many steps go the way their streets lead less how many go against it."""
    # A street of sign 0 leads from its lesser town to its greater one.
    return sum([1 if (signing[street] == 0) == (start < end) else -1 for street, start, end in steps])


def lead(plan, signing, walk):
    """The lead of a walk in a signing."""
    need_signing(plan, signing)
    steps = steps_of(plan, walk)
    if steps is None:
        raise NoWalk()
    return lead_of(signing, steps)


def ways_to_towns(plan):
    """For each town the streets of a way to it from town 0, whichever way these lead."""
    many, streets = plan
    ways = ways_from(0, both_ways(streets))
    # The paths have each street a second time behind all of them, the other way about.
    return [[place % len(streets) for place in ways[town]] for town in range(many)]


def climb(plan, one, other, streets):
    """How much higher a way from town 0 ends than it begins, by the streets in which two signings differ."""
    steps = steps_from(plan, 0, streets)
    # Each step along an unlike street, up or down by one, makes the leads differ by two.
    return (lead_of(one, steps) - lead_of(other, steps)) // 2


def levels_between(plan, one, other):
    """The heights of two signings, as far as the streets of the ways from town 0 ask for them."""
    climbs = [climb(plan, one, other, way) for way in ways_to_towns(plan)]
    least = min(climbs)
    return tuple([height - least for height in climbs])


def unfit_streets(plan, one, other, levels):
    """The streets whose ends have not the heights that two signings ask for."""
    # A street that leads from its lesser town at first and then to it has a greater town higher by one.
    return [street for street, (low, high) in enumerate(plan[1])
            if levels[high] - levels[low] != other[street] - one[street]]


def heights(plan, one, other):
    """The heights of two signings of which one leads to the other by shores; None of others."""
    need_signings(plan, one, other)
    levels = levels_between(plan, one, other)
    return None if unfit_streets(plan, one, other, levels) else levels


def towns_up_to(levels, level):
    """The rising tuple of the towns that are at most so high."""
    return tuple([town for town, height in enumerate(levels) if height <= level])


def shores_up(levels):
    """The turns of shores by which towns of such heights come to be of one height."""
    # Out of the lowest towns all streets lead, to ends higher by one: turned, these ends are among the lowest.
    return tuple([("shore", towns_up_to(levels, level)) for level in range(max(levels))])


def streets_round(plan, street):
    """The streets from town 0 out to a street, along it, and home to town 0."""
    ways = ways_to_towns(plan)
    one, other = plan[1][street]
    return tuple(ways[one] + [street] + ways[other][::-1])


def by_shores(plan, one, other):
    """("row", row), shores from one signing to the other, or ("walk", town, streets) that bars them."""
    need_signings(plan, one, other)
    levels = levels_between(plan, one, other)
    unfit = unfit_streets(plan, one, other, levels)
    if unfit:
        return ("walk", 0, streets_round(plan, unfit[0]))
    return ("row", shores_up(levels))


def is_unlike_round(plan, one, other, thing):
    """Whether thing, of anything, is a closed walk with unlike leads in two signings."""
    steps = steps_of(plan, thing)
    if steps is None:
        return False
    # A step is (street, start, end).
    closed = steps[0][1] == steps[-1][2]
    return closed and lead_of(one, steps) != lead_of(other, steps)


def shows_by_shores(plan, one, other, thing):
    """Whether thing, of anything, shows that shores lead from one signing to the other, or that none do."""
    need_signings(plan, one, other)
    if is_pair(thing):
        return thing[0] == "row" and leads_there(plan, one, other, ("shore",), thing[1])
    return is_triple(thing) and thing[0] == "walk" and is_unlike_round(plan, one, other, thing[1:])

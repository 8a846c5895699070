"""Plans of towns and streets, and signings of the streets."""

from ringshores.errors import NoPlan, NoSigning, NoTown

MOST_TOWNS = 6
MOST_STREETS = 9


def is_whole(thing):
    """Whether thing, of anything, is a whole number."""
    # Python counts True and False among the ints, the document does not.
    return isinstance(thing, int) and not isinstance(thing, bool)


def is_below(thing, bound):
    """Whether thing, of anything, is a whole number from 0 to one less than bound."""
    return is_whole(thing) and 0 <= thing < bound


def is_pair(thing):
    """Whether thing, of anything, is a tuple of two parts."""
    return isinstance(thing, tuple) and len(thing) == 2


def is_triple(thing):
    """Whether thing, of anything, is a tuple of three parts."""
    return isinstance(thing, tuple) and len(thing) == 3


def is_street(many, thing):
    """Whether thing, of anything, is a street between two of so many towns."""
    if not is_pair(thing):
        return False
    one, other = thing
    return is_below(one, many) and is_below(other, many) and one < other


def are_streets(many, thing):
    """Whether thing, of anything, is a tuple of streets as a plan has them."""
    if not isinstance(thing, tuple) or len(thing) > MOST_STREETS:
        return False
    if not all([is_street(many, street) for street in thing]):
        return False
    return all([ahead <= street for ahead, street in zip(thing, thing[1:])])


def ways_from(town, paths):
    """For each town come to from a town by paths (start, end), the places of the paths of a shortest way."""
    ways = {town: ()}
    waiting = [town]
    while waiting:
        here = waiting.pop(0)
        for place, (start, end) in enumerate(paths):
            if start == here and end not in ways:
                ways[end] = ways[here] + (place,)
                waiting.append(end)
    return ways


def towns_from(town, paths):
    """The rising tuple of the towns that are come to from a town by paths (start, end)."""
    return tuple(sorted(ways_from(town, paths)))


def towns_left(many, town, paths):
    """The rising tuple of the towns, of so many, that are not come to from a town by paths (start, end)."""
    reached = towns_from(town, paths)
    return tuple([other for other in range(many) if other not in reached])


def both_ways(streets):
    """The paths of all streets from one to other, and behind them those of all from other to one."""
    return list(streets) + [(other, one) for one, other in streets]


def hang_together(many, streets):
    """Whether each town is come to from each other one, whichever way the streets lead."""
    return len(towns_from(0, both_ways(streets))) == many


def is_plan(thing):
    """Whether thing, of anything, is a plan."""
    if not is_pair(thing):
        return False
    many, streets = thing
    if not is_below(many, MOST_TOWNS + 1) or many == 0:
        return False
    return are_streets(many, streets) and hang_together(many, streets)


def need_plan(plan):
    """Refuse what is no plan."""
    if not is_plan(plan):
        raise NoPlan()


def is_signing(plan, thing):
    """Whether thing, of anything, is a signing of the plan."""
    need_plan(plan)
    if not isinstance(thing, tuple) or len(thing) != len(plan[1]):
        return False
    return all([is_below(sign, 2) for sign in thing])


def need_signing(plan, signing):
    """Refuse what is no plan, then what is no signing of it."""
    if not is_signing(plan, signing):
        raise NoSigning()


def need_town(plan, town):
    """Refuse what is no town of a plan."""
    if not is_below(town, plan[0]):
        raise NoTown()


def need_signings(plan, one, other):
    """Refuse what is no plan, then what are no two signings of it."""
    need_signing(plan, one)
    need_signing(plan, other)


def paths_of(plan, signing):
    """For each street the pair (start, end) of the towns from and to which it leads."""
    return [(other, one) if sign == 1 else (one, other)
            for sign, (one, other) in zip(signing, plan[1])]


def signings_of(plan):
    """All signings of a plan."""
    signings = [()]
    for _ in plan[1]:
        signings = [signing + (sign,) for signing in signings for sign in (0, 1)]
    return signings


def outs_of(plan, signing):
    """The outs of what surely is a signing."""
    starts = [path[0] for path in paths_of(plan, signing)]
    return tuple([starts.count(town) for town in range(plan[0])])


def outs(plan, signing):
    """The tuple with, for each town, how many streets lead out of it."""
    need_signing(plan, signing)
    return outs_of(plan, signing)


def come_to(plan, signing, town):
    """The rising tuple of the towns that are come to from a town, itself too."""
    need_signing(plan, signing)
    need_town(plan, town)
    return towns_from(town, paths_of(plan, signing))

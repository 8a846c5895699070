"""Wishes how streets lead and how many lead out of towns: a signing that has all, or a lot that bars each."""

from ringshores.errors import NoWishes
from ringshores.plans import is_below, is_pair, is_signing, need_plan, outs_of, signings_of
from ringshores.turns import is_rising, lots_of

MOST_OUTS = 9


def are_parts(thing, many, most):
    """Whether thing, of anything, is a tuple of so many parts, each None or from 0 to so much."""
    if not isinstance(thing, tuple) or len(thing) != many:
        return False
    return all([part is None or is_below(part, most + 1) for part in thing])


def are_wishes(plan, thing):
    """Whether thing, of anything, is wishes of a plan."""
    if not is_pair(thing):
        return False
    signs, numbers = thing
    return are_parts(signs, len(plan[1]), 1) and are_parts(numbers, plan[0], MOST_OUTS)


def need_wishes(plan, wishes):
    """Refuse what is no plan, then what is no wishes of it."""
    need_plan(plan)
    if not are_wishes(plan, wishes):
        raise NoWishes()


def has_parts(parts, wished):
    """Whether parts are as wished, where something is wished."""
    return all([wish is None or part == wish for part, wish in zip(parts, wished)])


def has_all(plan, wishes, signing):
    """Whether a signing has all wishes."""
    signs, numbers = wishes
    return has_parts(signing, signs) and has_parts(outs_of(plan, signing), numbers)


def starts_let(plan, wishes):
    """For each street the towns from which it may lead by its wish."""
    return [street if sign is None else (street[sign],) for sign, street in zip(wishes[0], plan[1])]


def is_lot_wanting(wishes, lot):
    """Whether a lot is of towns that have numbers, one at least."""
    return lot != () and all([wishes[1][town] is not None for town in lot])


def wanted_by(wishes, lot):
    """How many outs the towns of a lot want together."""
    return sum([wishes[1][town] for town in lot])


def is_few(plan, wishes, lot):
    """Whether the towns of a lot want fewer outs than there are streets that lead from one of them in any case."""
    sure = [towns for towns in starts_let(plan, wishes) if all([town in lot for town in towns])]
    return wanted_by(wishes, lot) < len(sure)


def is_many(plan, wishes, lot):
    """Whether the towns of a lot want more outs than there are streets that may lead from one of them."""
    let = [towns for towns in starts_let(plan, wishes) if any([town in lot for town in towns])]
    return wanted_by(wishes, lot) > len(let)


def bar(plan, wishes):
    """("few", towns), or else ("many", towns): the least lot that bars wishes which no signing has."""
    lots = sorted([lot for lot in lots_of(plan[0]) if is_lot_wanting(wishes, lot)])
    few = [lot for lot in lots if is_few(plan, wishes, lot)]
    if few:
        return ("few", few[0])
    # Where no lot wants too few and none too many, some signing has all.
    return ("many", [lot for lot in lots if is_many(plan, wishes, lot)][0])


def grant(plan, wishes):
    """("signing", signing) that has all wishes, or ("few", towns) or ("many", towns) that bar them."""
    need_wishes(plan, wishes)
    for signing in signings_of(plan):
        if has_all(plan, wishes, signing):
            return ("signing", signing)
    return bar(plan, wishes)


def shows_grant(plan, wishes, thing):
    """Whether thing, of anything, shows that some signing has all wishes, or that none has."""
    need_wishes(plan, wishes)
    if not is_pair(thing):
        return False
    word, part = thing
    if word == "signing":
        return is_signing(plan, part) and has_all(plan, wishes, part)
    if not is_rising(part, plan[0]) or not is_lot_wanting(wishes, part):
        return False
    return (word == "few" and is_few(plan, wishes, part)) or (word == "many" and is_many(plan, wishes, part))

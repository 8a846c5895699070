"""Sweeps and weights, and what leads from one signing to another by rings and shores, and what bars it."""

from ringshores.plans import is_below, is_pair, is_triple, is_whole, need_signings, outs
from ringshores.rings import rings_between
from ringshores.shores import shores_up
from ringshores.turns import leads_there, signing_behind_row


def brought(plan, times):
    """What is put to each town's number, less what is taken, where each is swept so many times."""
    changes = [0] * plan[0]
    for low, high in plan[1]:
        changes[low] += times[high] - times[low]
        changes[high] += times[low] - times[high]
    return changes


def once(many, town):
    """1 for a town, 0 for each other one of so many."""
    return [1 if place == town else 0 for place in range(many)]


def cleared_row(row, pivot, at, divisor):
    """A row, so often, less the pivot row, so often, that it has 0 at a place."""
    return [(pivot[at] * part - row[at] * against) // divisor for part, against in zip(row, pivot)]


def cleared(rows, at, divisor):
    """The rows with 0 at a place, but in the row of that place."""
    return [row if place == at else cleared_row(row, rows[at], at, divisor) for place, row in enumerate(rows)]


def carriers(plan):
    """(trees, rows): a row for each town but the last, whose sweeps carry so many from it to the last one."""
    many = plan[0]
    size = many - 1
    rows = [[-part for part in brought(plan, once(many, town))[:size]] + once(size, town)
            for town in range(size)]
    trees = 1
    for at in range(size):
        # The pivot ahead divides all parts without a rest, as Bareiss found. Each pivot is how many trees
        # there are where all towns behind its own count as one, and so it is never 0.
        rows, trees = cleared(rows, at, trees), rows[at][at]
    return trees, [row[size:] + [0] for row in rows]


def weighed(weights, numbers):
    """All towns' numbers together, each as often as its town's weight says."""
    return sum([weight * number for weight, number in zip(weights, numbers)])


def sweeps_between(plan, one, other):
    """The sweeps from the outs of one signing to those of another, where no weights tell them apart."""
    trees, rows = carriers(plan)
    surplus = [first - second for first, second in zip(outs(plan, one), outs(plan, other))]
    times = [weighed(row, surplus) // trees for row in rows] + [0]
    least = min(times)
    return tuple([often - least for often in times])


def tell_apart(plan, one, other, number, weights):
    """Whether the outs of two signings, so weighed, leave unlike remainders when divided by the number."""
    return weighed(weights, outs(plan, one)) % number != weighed(weights, outs(plan, other)) % number


def weights_between(plan, one, other):
    """Weights (number, weights) that tell two signings apart; None where there are none."""
    trees, rows = carriers(plan)
    for row in rows:
        weights = tuple([part % trees for part in row])
        if tell_apart(plan, one, other, trees, weights):
            return (trees, weights)
    return None


def sweeps(plan, one, other):
    """The sweeps that lead from the outs of one signing to those of the other; None where none do."""
    need_signings(plan, one, other)
    if weights_between(plan, one, other) is not None:
        return None
    return sweeps_between(plan, one, other)


def row_between(plan, one, other):
    """A row of rings, and behind them of shores, between two signings that no weights tell apart."""
    times = sweeps_between(plan, one, other)
    shores = shores_up([max(times) - often for often in times])
    last = signing_behind_row(plan, one, shores)
    # No shore minds a ring, so the rings that are left to turn behind the shores are turned ahead of them.
    return rings_between(plan, last, other) + shores


def by_both(plan, one, other):
    """("row", row), that leads from one signing to the other, or ("weights", number, weights) that bar it."""
    need_signings(plan, one, other)
    barred = weights_between(plan, one, other)
    if barred is not None:
        return ("weights",) + barred
    return ("row", row_between(plan, one, other))


def are_weights(plan, number, weights):
    """Whether a number and weights, both of anything, are weights of the plan."""
    if not is_whole(number) or number < 2:
        return False
    if not isinstance(weights, tuple) or len(weights) != plan[0]:
        return False
    if not all([is_below(weight, number) for weight in weights]):
        return False
    # What a town's other ends weigh less its own weights is what sweeps as many as the weights bring it.
    return all([part % number == 0 for part in brought(plan, weights)])


def shows_by_both(plan, one, other, thing):
    """Whether thing, of anything, shows that rings and shores lead from one to the other, or that none do."""
    need_signings(plan, one, other)
    if is_pair(thing):
        return thing[0] == "row" and leads_there(plan, one, other, ("ring", "shore"), thing[1])
    if not is_triple(thing):
        return False
    word, number, weights = thing
    if word != "weights" or not are_weights(plan, number, weights):
        return False
    return tell_apart(plan, one, other, number, weights)

"""Names of signings by a root: what all signings that rings and shores lead to one another have in common."""

from math import gcd

from ringshores.both import carriers, weighed
from ringshores.errors import NoNumbers
from ringshores.plans import (is_whole, need_plan, need_signing, need_signings, need_town, outs_of, paths_of,
                              signings_of, towns_left)
from ringshores.turns import signing_behind_turn


def rooted_row(plan, signing, root):
    """(row, signing): shores behind which all towns are come to from the root, and the signing behind them."""
    now = signing
    row = []
    left = towns_left(plan[0], root, paths_of(plan, now))
    while left:
        # What is come to stays so behind the turn, and now streets lead on from there: one town more, at least.
        turn = ("shore", left)
        row.append(turn)
        now = signing_behind_turn(plan, now, turn)
        left = towns_left(plan[0], root, paths_of(plan, now))
    return tuple(row), now


def rooted(plan, signing, root):
    """(row, signing): shores behind which all towns are come to from a town, and the signing behind them."""
    need_signing(plan, signing)
    need_town(plan, root)
    return rooted_row(plan, signing, root)


def name_of(plan, signing, root):
    """The name of a signing by a root."""
    return outs_of(plan, rooted(plan, signing, root)[1])


def are_numbers(plan, thing):
    """Whether thing, of anything, is numbers of a plan."""
    if not isinstance(thing, tuple) or len(thing) != plan[0]:
        return False
    return all([is_whole(number) for number in thing]) and sum(thing) == len(plan[1])


def remainders(trees, rows, numbers):
    """What numbers leave by the carriers (trees, rows): alike just where sweeps lead from one to another."""
    return [weighed(row, numbers) % trees for row in rows]


def signing_behind_sweeps(plan, numbers):
    """A signing from whose outs sweeps lead to the numbers."""
    trees, rows = carriers(plan)
    wanted = remainders(trees, rows, numbers)
    return [signing for signing in signings_of(plan)
            if remainders(trees, rows, outs_of(plan, signing)) == wanted][0]


def name_by(plan, numbers, root):
    """The name by a root of the signings from whose outs sweeps lead to the numbers."""
    need_plan(plan)
    if not are_numbers(plan, numbers):
        raise NoNumbers()
    need_town(plan, root)
    return outs_of(plan, rooted_row(plan, signing_behind_sweeps(plan, numbers), root)[1])


def least_times(plan, one, other):
    """The least number of times that what the second's outs differ by from the first's is what sweeps bring."""
    need_signings(plan, one, other)
    trees, rows = carriers(plan)
    changes = [second - first for first, second in zip(outs_of(plan, one), outs_of(plan, other))]
    common = trees
    for row in rows:
        common = gcd(common, weighed(row, changes))
    return trees // common

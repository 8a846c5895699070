"""By how few turns of a way one signing leads to another, and to how many it leads by just so many."""

from ringshores.counts import WAYS, need_word
from ringshores.plans import need_signing, need_signings
from ringshores.turns import rings_of, shores_of, signing_behind_turn

TURNS_BY_WAY = {"rings": ("ring",), "shores": ("shore",), "both": ("ring", "shore")}


def turns_of(plan, signing, way):
    """The turns of a way that can be done in a signing, the least ahead."""
    words = TURNS_BY_WAY[way]
    rings = rings_of(plan, signing) if "ring" in words else ()
    shores = shores_of(plan, signing) if "shore" in words else ()
    return [("ring", ring) for ring in rings] + [("shore", shore) for shore in shores]


def steps_of_turns(plan, signing, way):
    """For each turn of a way that can be done, the least ahead, the pair of it and the signing behind it."""
    return [(turn, signing_behind_turn(plan, signing, turn)) for turn in turns_of(plan, signing, way)]


def fewest_to(plan, signing, way):
    """For each signing that is led to by a way, the pair of the fewest turns and of how many rows are of so few."""
    found = {signing: (0, 1)}
    waiting = [signing]
    while waiting:
        here = waiting.pop(0)
        turns, rows = found[here]
        for _, there in steps_of_turns(plan, here, way):
            if there not in found:
                found[there] = (turns + 1, 0)
                waiting.append(there)
            if found[there][0] == turns + 1:
                found[there] = (turns + 1, found[there][1] + rows)
    return found


def least_row(plan, one, other, way):
    """The least of the rows of the fewest turns that lead from one signing to another; None where none does."""
    # Each turn can be undone by one of its way, so as many turns lead back.
    left = fewest_to(plan, other, way)
    if one not in left:
        return None
    now = one
    row = []
    while now != other:
        nearer = [step for step in steps_of_turns(plan, now, way) if left[step[1]][0] < left[now][0]]
        turn, now = nearer[0]
        row.append(turn)
    return tuple(row)


def fewest(plan, one, other, way):
    """The least of the rows of the fewest turns of a way from one signing to another; None where none does."""
    need_signings(plan, one, other)
    need_word(way, WAYS)
    return least_row(plan, one, other, way)


def how_many_fewest(plan, one, other, way):
    """How many rows of the fewest turns of a way lead from one signing to another, 0 where none does."""
    need_signings(plan, one, other)
    need_word(way, WAYS)
    return fewest_to(plan, one, way).get(other, (0, 0))[1]


def levels(plan, signing, way):
    """The tuple of how many signings are come to by just so many turns of a way and no fewer, from 0 on."""
    need_signing(plan, signing)
    need_word(way, WAYS)
    turns = [pair[0] for pair in list(fewest_to(plan, signing, way).values())]
    return tuple([turns.count(many) for many in range(max(turns) + 1)])

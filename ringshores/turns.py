"""Rings and shores of signings, turns of them, and rows of turns."""

from ringshores.errors import NoRow, NoTurn
from ringshores.plans import is_below, is_pair, need_signing, paths_of


def is_rising(thing, bound):
    """Whether thing, of anything, is a rising tuple of whole numbers below bound, from 0 on."""
    if not isinstance(thing, tuple) or not all([is_below(part, bound) for part in thing]):
        return False
    return all([ahead < part for ahead, part in zip(thing, thing[1:])])


def lead_round(paths):
    """Whether paths, one at least, are one round that comes to each of its towns just once."""
    onward = {start: end for start, end in paths}
    first = paths[0][0]
    here = first
    met = []
    while here in onward and here not in met:
        met.append(here)
        here = onward[here]
    # Two paths out of one town, or several rounds, leave fewer towns met than there are paths.
    return here == first and len(met) == len(paths)


def is_ring(plan, signing, thing):
    """Whether thing, of anything, is a ring of the signing."""
    if not is_rising(thing, len(signing)) or thing == ():
        return False
    paths = paths_of(plan, signing)
    return lead_round([paths[street] for street in thing])


def lead_out(paths, towns):
    """Whether no path leads to one of the towns from another one."""
    return all([start in towns or end not in towns for start, end in paths])


def is_part(thing, many):
    """Whether thing, of anything, is a rising tuple of towns, of so many, not none and not all."""
    return is_rising(thing, many) and 0 < len(thing) < many


def is_shore(plan, signing, thing):
    """Whether thing, of anything, is a shore of the signing."""
    return is_part(thing, plan[0]) and lead_out(paths_of(plan, signing), thing)


def rings_from(first, paths):
    """The rings of which a town is the least, each a rising tuple of streets."""
    found = []
    waiting = [((), (first,))]
    while waiting:
        streets, towns = waiting.pop()
        for street, (start, end) in enumerate(paths):
            if start != towns[-1]:
                continue
            if end == first:
                found.append(tuple(sorted(streets + (street,))))
            elif end > first and end not in towns:
                waiting.append((streets + (street,), towns + (end,)))
    return found


def rings_of(plan, signing):
    """The rising tuple of the rings of a signing."""
    need_signing(plan, signing)
    paths = paths_of(plan, signing)
    found = []
    for town in range(plan[0]):
        found.extend(rings_from(town, paths))
    return tuple(sorted(found))


def lots_of(many):
    """All lots of the numbers from 0 to one less than many, each a rising tuple."""
    lots = [()]
    for number in range(many):
        lots = lots + [lot + (number,) for lot in lots]
    return lots


def shores_of(plan, signing):
    """The rising tuple of the shores of a signing."""
    need_signing(plan, signing)
    paths = paths_of(plan, signing)
    return tuple(sorted([lot for lot in lots_of(plan[0]) if 0 < len(lot) < plan[0] and lead_out(paths, lot)]))


def is_turn(plan, signing, thing):
    """Whether thing, of anything, is a turn that can be done in the signing."""
    if not is_pair(thing):
        return False
    word, lot = thing
    if word == "ring":
        return is_ring(plan, signing, lot)
    return word == "shore" and is_shore(plan, signing, lot)


def is_led_otherwise(plan, turn, street):
    """Whether a street leads the other way behind a turn."""
    word, lot = turn
    if word == "ring":
        return street in lot
    one, other = plan[1][street]
    return (one in lot) != (other in lot)


def signing_behind_turn(plan, signing, turn):
    """The signing behind a turn that can be done."""
    return tuple([1 - sign if is_led_otherwise(plan, turn, street) else sign
                  for street, sign in enumerate(signing)])


def turned(plan, signing, turn):
    """The signing behind a turn."""
    need_signing(plan, signing)
    if not is_turn(plan, signing, turn):
        raise NoTurn()
    return signing_behind_turn(plan, signing, turn)


def signing_behind_row(plan, signing, thing):
    """The signing behind thing, of anything; None where it is no row of the signing."""
    if not isinstance(thing, tuple):
        return None
    now = signing
    for turn in thing:
        if not is_turn(plan, now, turn):
            return None
        now = signing_behind_turn(plan, now, turn)
    return now


def is_row(plan, signing, thing):
    """Whether thing, of anything, is a row of the signing."""
    need_signing(plan, signing)
    return signing_behind_row(plan, signing, thing) is not None


def leads_there(plan, one, other, words, thing):
    """Whether thing, of anything, is a row of turns of these words from one signing to the other."""
    if signing_behind_row(plan, one, thing) != other:
        return False
    return all([turn[0] in words for turn in thing])


def behind(plan, signing, row):
    """The signing behind a row."""
    need_signing(plan, signing)
    last = signing_behind_row(plan, signing, row)
    if last is None:
        raise NoRow()
    return last


def need_row(plan, signing, row):
    """Refuse what is no plan, then what is no signing of it, then what is no row of that."""
    if not is_row(plan, signing, row):
        raise NoRow()


def turn_back(plan, turn):
    """The turn that undoes a turn."""
    word, lot = turn
    if word == "ring":
        return turn
    # Behind the turn all streets between lead into the shore, so out of the rest.
    return ("shore", tuple([town for town in range(plan[0]) if town not in lot]))


def back(plan, signing, row):
    """The row that leads back from the signing behind a row."""
    need_row(plan, signing, row)
    return tuple([turn_back(plan, turn) for turn in row[::-1]])


def rings_first(plan, signing, row):
    """The row with all its rings ahead and all its shores behind."""
    need_row(plan, signing, row)
    return tuple([turn for word in ("ring", "shore") for turn in row if turn[0] == word])

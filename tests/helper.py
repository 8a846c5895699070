"""What the tests share: plans, odd things, and the document's words gone through one by one."""

import unittest
from functools import lru_cache
from itertools import combinations, product

from ringshores.errors import ShoreError

ALONE = (1, ())
PAIR = (2, ((0, 1),))
TWINS = (2, ((0, 1), (0, 1)))
TRIPLETS = (2, ((0, 1), (0, 1), (0, 1)))
NINE_LIKE = (2, ((0, 1),) * 9)
PATH = (3, ((0, 1), (1, 2)))
TRIANGLE = (3, ((0, 1), (0, 2), (1, 2)))
FAT_TRIANGLE = (3, ((0, 1), (0, 2), (1, 2), (1, 2)))
SQUARE = (4, ((0, 1), (0, 3), (1, 2), (2, 3)))
KITE = (4, ((0, 1), (0, 2), (1, 2), (1, 2), (2, 3)))
ALL_FOUR = (4, ((0, 1), (0, 2), (0, 3), (1, 2), (1, 3), (2, 3)))
BOW = (5, ((0, 1), (0, 2), (1, 2), (2, 3), (2, 4), (3, 4)))
# The triangle of the flag is a ring, and from it streets lead on: it has rings and shores.
FLAG = (5, ((0, 1), (0, 2), (1, 2), (2, 3), (3, 4)))
FLAG_SIGNING = (0, 1, 0, 0, 0)
STAR = (6, ((0, 3), (1, 3), (2, 3), (3, 4), (3, 5)))
PRISM = (6, ((0, 1), (0, 2), (0, 3), (1, 2), (1, 4), (2, 5), (3, 4), (3, 5), (4, 5)))
CROSSES = (6, ((0, 3), (0, 4), (0, 5), (1, 3), (1, 4), (1, 5), (2, 3), (2, 4), (2, 5)))
LOOSE_SIX = (6, ((0, 1), (0, 1), (0, 2), (1, 2), (2, 3), (3, 4), (3, 5), (4, 5), (4, 5)))

SMALL_PLANS = [ALONE, PAIR, TWINS, TRIPLETS, PATH, TRIANGLE, FAT_TRIANGLE, SQUARE, KITE, ALL_FOUR,
               BOW, FLAG, STAR]
BIG_PLANS = [NINE_LIKE, PRISM, CROSSES, LOOSE_SIX]


def deep(depth):
    thing = 0
    for _ in range(depth):
        thing = (thing,)
    return thing


def odd_things():
    """Things of anything, of each kind that point 2 names, up to its bounds."""
    return [None, True, False, 0, 1, 2, 6, 7, -1, -2, 10 ** 12, 9999999999999, -9999999999999,
            "", "0", "ring", "shore", "a text", "x" * 600, "line\nline", "~",
            (), [], {}, (0,), [0], {0: 0}, (0, 1), [0, 1], (1, 0), (True, False), (0, 0), (1, 2),
            ((), ()), ([], []), ({}, {}), (None, None), ("ring", ()), ("shore", ()),
            ("ring", (0, 1)), ["ring", (0, 1)], ("ring", [0, 1]), ("shore", (0,)), ("shore", [0]),
            ("shore", (False,)), (("shore", (0,)),), {"ring": (0, 1)}, {"shore": (0,)},
            (1, ()), [1, ()], (1, []), (True, ()), (2, ((0, 1),)), (2, [(0, 1)]), (2, ([0, 1],)),
            (2, ((False, True),)), (2, ((0, True),)), (2, ((0, 1), None)), (2, ({},)),
            deep(8), [[[[[[[[]]]]]]]], {0: {0: {0: {0: {}}}}}, (0,) * 2999, [1] * 2999,
            ("ring", (0,) * 2990), ("shore", tuple(range(2990))), (6, ((0, 1),) * 900)]


def likes(thing, fillings):
    """Thing with one part otherwise, left out, twice or put in, however deep, or of another kind."""
    for filling in fillings:
        yield filling
    if type(thing) is int:
        yield from (bool(thing), str(thing), -1 - thing, thing + 1, [thing], (thing,))
    if isinstance(thing, str):
        yield from (thing.upper(), thing + " ", [thing], thing[:-1])
    if not isinstance(thing, tuple):
        return
    yield list(thing)
    yield dict(enumerate(thing))
    for at, part in enumerate(thing):
        yield thing[:at] + thing[at + 1:]
        yield thing[:at] + (part, part) + thing[at + 1:]
        yield thing[:at] + thing[at + 1:] + (part,)
        for other in likes(part, fillings):
            yield thing[:at] + (other,) + thing[at + 1:]
    for filling in fillings:
        yield thing + (filling,)
        yield (filling,) + thing


def signings_of(plan):
    return list(product((0, 1), repeat=len(plan[1])))


def some_signings(plan, most=24):
    every = signings_of(plan)
    step = max(1, len(every) // most) | 1
    return every[::step] + every[-1:]


def lots(many):
    """All rising tuples of numbers below many."""
    return [lot for size in range(many + 1) for lot in combinations(range(many), size)]


def start_and_end(plan, signing, street):
    one, other = plan[1][street]
    return (one, other) if signing[street] == 0 else (other, one)


def outs_told(plan, signing):
    counts = [0] * plan[0]
    for street in range(len(signing)):
        counts[start_and_end(plan, signing, street)[0]] += 1
    return tuple(counts)


def come_to_told(plan, signing, town):
    """What is reached, by as many rounds over all streets as there are towns."""
    reached = {town}
    for _ in range(plan[0]):
        for street in range(len(signing)):
            start, end = start_and_end(plan, signing, street)
            if start in reached:
                reached.add(end)
    return tuple(sorted(reached))


def pieces(many, streets):
    """For each town a mark, alike just where the towns hang together by the streets."""
    marks = list(range(many))
    for one, other in streets:
        old, new = marks[one], marks[other]
        marks = [new if mark == old else mark for mark in marks]
    return marks


def is_ring_told(plan, signing, lot):
    ends = [start_and_end(plan, signing, street) for street in lot]
    towns = {town for pair in ends for town in pair}
    if not towns:
        return False
    if sorted(start for start, end in ends) != sorted(towns):
        return False
    if sorted(end for start, end in ends) != sorted(towns):
        return False
    marks = pieces(plan[0], ends)
    return len({marks[town] for town in towns}) == 1


def is_shore_told(plan, signing, lot):
    if not 0 < len(lot) < plan[0]:
        return False
    for street in range(len(signing)):
        start, end = start_and_end(plan, signing, street)
        if (start in lot) != (end in lot) and start not in lot:
            return False
    return True


def rings_told(plan, signing):
    return tuple(sorted(lot for lot in lots(len(signing)) if is_ring_told(plan, signing, lot)))


def shores_told(plan, signing):
    return tuple(sorted(lot for lot in lots(plan[0]) if is_shore_told(plan, signing, lot)))


def turns_told(plan, signing):
    return ([("ring", ring) for ring in rings_told(plan, signing)]
            + [("shore", shore) for shore in shores_told(plan, signing)])


def turned_told(plan, signing, turn):
    word, lot = turn
    signs = list(signing)
    for street, (one, other) in enumerate(plan[1]):
        led = street in lot if word == "ring" else (one in lot) + (other in lot) == 1
        if led:
            signs[street] = {0: 1, 1: 0}[signs[street]]
    return tuple(signs)


def walk_row(plan, signing, length, choose):
    """A row of some length, each turn chosen among all that can be done at its place."""
    row = []
    for place in range(length):
        turns = turns_told(plan, signing)
        if not turns:
            break
        row.append(turns[choose(place) % len(turns)])
        signing = turned_told(plan, signing, row[-1])
    return tuple(row), signing


def is_lot_told(thing, bound):
    """Whether it is a rising tuple of whole numbers below a bound, without a truth among them."""
    if type(thing) is not tuple or not all(type(part) is int and 0 <= part < bound for part in thing):
        return False
    return list(thing) == sorted(set(thing))


def is_turn_told(plan, signing, thing, words):
    if type(thing) is not tuple or len(thing) != 2 or thing[0] not in words:
        return False
    if thing[0] == "ring":
        return is_lot_told(thing[1], len(signing)) and is_ring_told(plan, signing, thing[1])
    return is_lot_told(thing[1], plan[0]) and is_shore_told(plan, signing, thing[1])


def row_end_told(plan, signing, thing, words=("ring", "shore")):
    """The signing behind a row of turns of the words; None of what is none."""
    if type(thing) is not tuple:
        return None
    for turn in thing:
        if not is_turn_told(plan, signing, turn, words):
            return None
        signing = turned_told(plan, signing, turn)
    return signing


@lru_cache(maxsize=None)
def turned_all_told(plan, signing, words):
    """All signings behind one turn of the words."""
    return [turned_told(plan, signing, turn) for turn in turns_told(plan, signing) if turn[0] in words]


@lru_cache(maxsize=None)
def led_to_told(plan, signing, words):
    """All signings to which one leads by turns of the words, itself too."""
    found = {signing}
    waiting = [signing]
    while waiting:
        for other in turned_all_told(plan, waiting.pop(), words):
            if other not in found:
                found.add(other)
                waiting.append(other)
    return found


def steps_told(plan, thing):
    """The steps (street, from, to) of a walk; None of what is none."""
    if type(thing) is not tuple or len(thing) != 2:
        return None
    town, streets = thing
    if type(town) is not int or not 0 <= town < plan[0]:
        return None
    if type(streets) is not tuple or len(streets) == 0:
        return None
    steps = []
    for street in streets:
        if type(street) is not int or not 0 <= street < len(plan[1]):
            return None
        ends = set(plan[1][street])
        if town not in ends:
            return None
        end = (ends - {town}).pop()
        steps.append((street, town, end))
        town = end
    return steps


def lead_told(plan, signing, steps):
    """How many steps are gone as their streets lead less how many are gone against it."""
    ways = [start_and_end(plan, signing, street) == (start, end) for street, start, end in steps]
    return ways.count(True) - ways.count(False)


def walks_told(plan, most):
    """All walks of at most so many streets."""
    found = []
    last = [(town, ()) for town in range(plan[0])]
    for _ in range(most):
        last = [(town, streets + (street,)) for town, streets in last for street in range(len(plan[1]))
                if steps_told(plan, (town, streets + (street,))) is not None]
        found += last
    return found


def swept_told(plan, numbers, times):
    """The towns' numbers behind so many sweeps of each, done one by one."""
    now = list(numbers)
    for town in range(plan[0]):
        for _ in range(times[town]):
            for ends in plan[1]:
                if town in ends:
                    now[town] -= 1
                    now[sum(ends) - town] += 1
    return tuple(now)


def turned_on_told(plan, signing, word, times):
    """The signing behind so many turns of a word, each one of those that can be done, if any."""
    for place in range(times):
        turns = [turn for turn in turns_told(plan, signing) if turn[0] == word]
        if turns:
            signing = turned_told(plan, signing, turns[(5 * place + 2) % len(turns)])
    return signing


def rows_of_two_told(plan, signing, most):
    """Rows of two turns, each among the first so many that can be done."""
    return [(first, second) for first in turns_told(plan, signing)[:most]
            for second in turns_told(plan, turned_told(plan, signing, first))[:most]]


def some_pairs(plan, most=24):
    return list(product(some_signings(plan, most), repeat=2))


class Case(unittest.TestCase):
    def refused(self, error, call, *places, **names):
        """The call is refused by an error of just this class."""
        with self.assertRaises(ShoreError, msg=repr((places, names))[:300]) as caught:
            call(*places, **names)
        self.assertIs(type(caught.exception), error, repr((places, names))[:300])

    def just(self, told, wanted, note=None):
        """Told is as wanted, number by number: True is no 1, and a list no tuple."""
        self.assertEqual(repr(told), repr(wanted), note)

"""What the tests share: plans, odd things, and the document's words gone through one by one."""

import unittest
from itertools import combinations, product

from ringshores.errors import ShoreError

ALONE = (1, ())
PAIR = (2, ((0, 1),))
TWINS = (2, ((0, 1), (0, 1)))
TRIPLETS = (2, ((0, 1), (0, 1), (0, 1)))
NINE_LIKE = (2, ((0, 1),) * 9)
PATH = (3, ((0, 1), (1, 2)))
TRIANGLE = (3, ((0, 1), (0, 2), (1, 2)))
FAT_TRIANGLE = (3, ((0, 1), (0, 2), (1, 2), (1, 2)))
SQUARE = (4, ((0, 1), (0, 3), (1, 2), (2, 3)))
KITE = (4, ((0, 1), (0, 2), (1, 2), (1, 2), (2, 3)))
ALL_FOUR = (4, ((0, 1), (0, 2), (0, 3), (1, 2), (1, 3), (2, 3)))
BOW = (5, ((0, 1), (0, 2), (1, 2), (2, 3), (2, 4), (3, 4)))
STAR = (6, ((0, 3), (1, 3), (2, 3), (3, 4), (3, 5)))
PRISM = (6, ((0, 1), (0, 2), (0, 3), (1, 2), (1, 4), (2, 5), (3, 4), (3, 5), (4, 5)))
CROSSES = (6, ((0, 3), (0, 4), (0, 5), (1, 3), (1, 4), (1, 5), (2, 3), (2, 4), (2, 5)))
LOOSE_SIX = (6, ((0, 1), (0, 1), (0, 2), (1, 2), (2, 3), (3, 4), (3, 5), (4, 5), (4, 5)))

SMALL_PLANS = [ALONE, PAIR, TWINS, TRIPLETS, PATH, TRIANGLE, FAT_TRIANGLE, SQUARE, KITE, ALL_FOUR,
               BOW, STAR]
BIG_PLANS = [NINE_LIKE, PRISM, CROSSES, LOOSE_SIX]


def deep(depth):
    thing = 0
    for _ in range(depth):
        thing = (thing,)
    return thing


def odd_things():
    """Things of anything, of each kind that point 2 names, up to its bounds."""
    return [None, True, False, 0, 1, 2, 6, 7, -1, -2, 10 ** 12, 9999999999999, -9999999999999,
            "", "0", "ring", "shore", "a text", "x" * 600, "line\nline", "~",
            (), [], {}, (0,), [0], {0: 0}, (0, 1), [0, 1], (1, 0), (True, False), (0, 0), (1, 2),
            ((), ()), ([], []), ({}, {}), (None, None), ("ring", ()), ("shore", ()),
            ("ring", (0, 1)), ["ring", (0, 1)], ("ring", [0, 1]), ("shore", (0,)), ("shore", [0]),
            ("shore", (False,)), (("shore", (0,)),), {"ring": (0, 1)}, {"shore": (0,)},
            (1, ()), [1, ()], (1, []), (True, ()), (2, ((0, 1),)), (2, [(0, 1)]), (2, ([0, 1],)),
            (2, ((False, True),)), (2, ((0, True),)), (2, ((0, 1), None)), (2, ({},)),
            deep(8), [[[[[[[[]]]]]]]], {0: {0: {0: {0: {}}}}}, (0,) * 2999, [1] * 2999,
            ("ring", (0,) * 2990), ("shore", tuple(range(2990))), (6, ((0, 1),) * 900)]


def likes(thing, fillings):
    """Thing with one part otherwise, left out, twice or put in, however deep, or of another kind."""
    for filling in fillings:
        yield filling
    if type(thing) is int:
        yield from (bool(thing), str(thing), -1 - thing, thing + 1, [thing], (thing,))
    if isinstance(thing, str):
        yield from (thing.upper(), thing + " ", [thing], thing[:-1])
    if not isinstance(thing, tuple):
        return
    yield list(thing)
    yield dict(enumerate(thing))
    for at, part in enumerate(thing):
        yield thing[:at] + thing[at + 1:]
        yield thing[:at] + (part, part) + thing[at + 1:]
        yield thing[:at] + thing[at + 1:] + (part,)
        for other in likes(part, fillings):
            yield thing[:at] + (other,) + thing[at + 1:]
    for filling in fillings:
        yield thing + (filling,)
        yield (filling,) + thing


def signings_of(plan):
    return list(product((0, 1), repeat=len(plan[1])))


def some_signings(plan, most=24):
    every = signings_of(plan)
    step = max(1, len(every) // most) | 1
    return every[::step] + every[-1:]


def lots(many):
    """All rising tuples of numbers below many."""
    return [lot for size in range(many + 1) for lot in combinations(range(many), size)]


def start_and_end(plan, signing, street):
    one, other = plan[1][street]
    return (one, other) if signing[street] == 0 else (other, one)


def outs_told(plan, signing):
    counts = [0] * plan[0]
    for street in range(len(signing)):
        counts[start_and_end(plan, signing, street)[0]] += 1
    return tuple(counts)


def come_to_told(plan, signing, town):
    """What is reached, by as many rounds over all streets as there are towns."""
    reached = {town}
    for _ in range(plan[0]):
        for street in range(len(signing)):
            start, end = start_and_end(plan, signing, street)
            if start in reached:
                reached.add(end)
    return tuple(sorted(reached))


def pieces(many, streets):
    """For each town a mark, alike just where the towns hang together by the streets."""
    marks = list(range(many))
    for one, other in streets:
        old, new = marks[one], marks[other]
        marks = [new if mark == old else mark for mark in marks]
    return marks


def is_ring_told(plan, signing, lot):
    ends = [start_and_end(plan, signing, street) for street in lot]
    towns = {town for pair in ends for town in pair}
    if not towns:
        return False
    if sorted(start for start, end in ends) != sorted(towns):
        return False
    if sorted(end for start, end in ends) != sorted(towns):
        return False
    marks = pieces(plan[0], ends)
    return len({marks[town] for town in towns}) == 1


def is_shore_told(plan, signing, lot):
    if not 0 < len(lot) < plan[0]:
        return False
    for street in range(len(signing)):
        start, end = start_and_end(plan, signing, street)
        if (start in lot) != (end in lot) and start not in lot:
            return False
    return True


def rings_told(plan, signing):
    return tuple(sorted(lot for lot in lots(len(signing)) if is_ring_told(plan, signing, lot)))


def shores_told(plan, signing):
    return tuple(sorted(lot for lot in lots(plan[0]) if is_shore_told(plan, signing, lot)))


def turns_told(plan, signing):
    return ([("ring", ring) for ring in rings_told(plan, signing)]
            + [("shore", shore) for shore in shores_told(plan, signing)])


def turned_told(plan, signing, turn):
    word, lot = turn
    signs = list(signing)
    for street, (one, other) in enumerate(plan[1]):
        led = street in lot if word == "ring" else (one in lot) + (other in lot) == 1
        if led:
            signs[street] = {0: 1, 1: 0}[signs[street]]
    return tuple(signs)


def walk_row(plan, signing, length, choose):
    """A row of some length, each turn chosen among all that can be done at its place."""
    row = []
    for place in range(length):
        turns = turns_told(plan, signing)
        if not turns:
            break
        row.append(turns[choose(place) % len(turns)])
        signing = turned_told(plan, signing, row[-1])
    return tuple(row), signing


class Case(unittest.TestCase):
    def refused(self, error, call, *places, **names):
        """The call is refused by an error of just this class."""
        with self.assertRaises(ShoreError, msg=repr((places, names))[:300]) as caught:
            call(*places, **names)
        self.assertIs(type(caught.exception), error, repr((places, names))[:300])

    def just(self, told, wanted, note=None):
        """Told is as wanted, number by number: True is no 1, and a list no tuple."""
        self.assertEqual(repr(told), repr(wanted), note)

"""Point 5, as far as turns, rings and shores bear it out: all signings of a plan gone through."""

from fractions import Fraction

from ringshores.plans import come_to, outs
from ringshores.turns import behind, rings_first, rings_of, shores_of, turned
from tests import helper
from tests.helper import Case

PLANS = [plan for plan in helper.SMALL_PLANS if len(plan[1]) <= 6]


def turns_of(plan, signing, words):
    told = [("ring", ring) for ring in rings_of(plan, signing)]
    told += [("shore", shore) for shore in shores_of(plan, signing)]
    return [turn for turn in told if turn[0] in words]


def kinds(plan, words):
    """All signings in lots: each lot those to which its first one leads by turns of the words."""
    left = dict.fromkeys(helper.signings_of(plan))
    found = []
    while left:
        kind = [next(iter(left))]
        for signing in kind:
            left.pop(signing, None)
            for turn in turns_of(plan, signing, words):
                now = turned(plan, signing, turn)
                if now not in kind:
                    kind.append(now)
        found.append(kind)
    return found


def lots_of_streets(plan, test):
    """How many lots of streets there are whose streets and pieces pass a test."""
    found = 0
    for lot in helper.lots(len(plan[1])):
        streets = [plan[1][street] for street in lot]
        found += test(len(lot), len(set(helper.pieces(plan[0], streets))))
    return found


def round_walks(plan):
    """Closed walks, by (street, way) one behind the other, out of which all others are put together."""
    many, streets = plan
    paths = {0: []}
    rounds = []
    while len(paths) < many:
        for street, (one, other) in enumerate(streets):
            for start, end, way in ((one, other, 0), (other, one, 1)):
                if start in paths and end not in paths:
                    paths[end] = paths[start] + [(street, way)]
    for street, (one, other) in enumerate(streets):
        home = [(step, 1 - way) for step, way in paths[other][::-1]]
        rounds.append(paths[one] + [(street, 0)] + home)
    return rounds


def leads(signing, rounds):
    return [sum(1 if signing[street] == way else -1 for street, way in steps) for steps in rounds]


def bring(plan, brought):
    """Whether some sweeps bring it: the last town's times are none, the others' are solved for."""
    many, streets = plan
    size = many - 1
    rows = [[Fraction(0)] * size + [Fraction(brought[town])] for town in range(size)]
    for one, other in streets:
        for town, end in ((one, other), (other, one)):
            if town < size:
                rows[town][town] -= 1
                if end < size:
                    rows[town][end] += 1
    for at in range(size):
        pivot = next(row for row in rows[at:] if row[at])
        rows.remove(pivot)
        rows.insert(at, [part / pivot[at] for part in pivot])
        for other in range(size):
            if other != at:
                factor = rows[other][at]
                rows[other] = [part - factor * by for part, by in zip(rows[other], rows[at])]
    return sum(brought) == 0 and all(row[-1].denominator == 1 for row in rows)


class Promise(Case):
    def test_by_rings_alone_just_where_the_outs_are_alike(self):
        for plan in PLANS:
            found = kinds(plan, ("ring",))
            told = [{outs(plan, signing) for signing in kind} for kind in found]
            self.assertTrue(all(len(some) == 1 for some in told))
            self.assertEqual(len(set.union(*told)), len(found))

    def test_by_shores_alone_just_where_all_leads_are_alike(self):
        for plan in PLANS:
            rounds = round_walks(plan)
            found = kinds(plan, ("shore",))
            told = [{tuple(leads(signing, rounds)) for signing in kind} for kind in found]
            self.assertTrue(all(len(some) == 1 for some in told))
            self.assertEqual(len(set.union(*told)), len(found))

    def test_by_both_just_where_sweeps_bring_what_the_outs_differ_by(self):
        for plan in PLANS:
            found = kinds(plan, ("ring", "shore"))
            for at, kind in enumerate(found):
                first = outs(plan, kind[0])
                for place, other in enumerate(found):
                    for signing in other[:12]:
                        differ = [new - old for old, new in zip(first, outs(plan, signing))]
                        self.assertEqual(bring(plan, differ), at == place, plan)

    def test_how_many_kinds(self):
        for plan in PLANS:
            many = plan[0]
            forests = lots_of_streets(plan, lambda size, left: size == many - left)
            holding = lots_of_streets(plan, lambda size, left: left == 1)
            trees = lots_of_streets(plan, lambda size, left: left == 1 and size == many - 1)
            self.assertEqual(len(kinds(plan, ("ring",))), forests)
            self.assertEqual(len(kinds(plan, ("shore",))), holding)
            self.assertEqual(len(kinds(plan, ("ring", "shore"))), trees)

    def test_each_kind_by_both_has_one_kind_by_rings_that_comes_to_all_from_a_root(self):
        for plan in PLANS:
            for root in range(plan[0]):
                for kind in kinds(plan, ("ring", "shore")):
                    told = {outs(plan, signing) for signing in kind
                            if len(come_to(plan, signing, root)) == plan[0]}
                    self.assertEqual(len(told), 1)

    def test_each_street_lies_in_a_ring_or_at_a_shore_and_no_turn_changes_which(self):
        for plan in PLANS:
            for signing in helper.signings_of(plan):
                ringed = {street for ring in rings_of(plan, signing) for street in ring}
                shored = {street for street, (one, other) in enumerate(plan[1])
                          for shore in shores_of(plan, signing)
                          if (one in shore) != (other in shore)}
                self.assertEqual(ringed & shored, set())
                self.assertEqual(ringed | shored, set(range(len(plan[1]))))
                for turn in turns_of(plan, signing, ("ring", "shore")):
                    now = turned(plan, signing, turn)
                    self.assertEqual({street for ring in rings_of(plan, now) for street in ring},
                                     ringed)

    def test_rings_and_shores_never_mind_each_other(self):
        for plan in PLANS:
            for signing in helper.signings_of(plan):
                for ring in turns_of(plan, signing, ("ring",)):
                    for shore in turns_of(plan, signing, ("shore",)):
                        last = behind(plan, signing, (ring, shore))
                        self.just(behind(plan, signing, (shore, ring)), last)
                        self.just(rings_first(plan, signing, (shore, ring)), (ring, shore))

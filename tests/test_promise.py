"""Point 5: all signings of a plan gone through, and what the functions tell of them put side by side."""

from fractions import Fraction

from ringshores.both import by_both, sweeps
from ringshores.called import called, turned_about
from ringshores.counts import how_many, how_many_kinds, how_many_lots, how_many_without
from ringshores.desk import Desk
from ringshores.fewest import fewest, how_many_fewest, levels
from ringshores.keeper import Keeper
from ringshores.names import least_times, name_by, name_of, rooted
from ringshores.plans import come_to, outs
from ringshores.rings import by_rings
from ringshores.shores import by_shores, heights
from ringshores.split import in_rings
from ringshores.texts import read_signing, row_text, signing_text
from ringshores.turns import behind, rings_first, rings_of, shores_of, turned
from tests import helper
from tests.helper import Case

PLANS = [plan for plan in helper.SMALL_PLANS if len(plan[1]) <= 6]


def turns_of(plan, signing, words):
    told = [("ring", ring) for ring in rings_of(plan, signing)]
    told += [("shore", shore) for shore in shores_of(plan, signing)]
    return [turn for turn in told if turn[0] in words]


def kinds(plan, words):
    """All signings in lots: each lot those to which its first one leads by turns of the words."""
    left = dict.fromkeys(helper.signings_of(plan))
    found = []
    while left:
        kind = [next(iter(left))]
        for signing in kind:
            left.pop(signing, None)
            for turn in turns_of(plan, signing, words):
                now = turned(plan, signing, turn)
                if now not in kind:
                    kind.append(now)
        found.append(kind)
    return found


def lots_of_streets(plan, test):
    """How many lots of streets there are whose streets and pieces pass a test."""
    found = 0
    for lot in helper.lots(len(plan[1])):
        streets = [plan[1][street] for street in lot]
        found += test(len(lot), len(set(helper.pieces(plan[0], streets))))
    return found


def round_walks(plan):
    """Closed walks, by (street, way) one behind the other, out of which all others are put together."""
    many, streets = plan
    paths = {0: []}
    rounds = []
    while len(paths) < many:
        for street, (one, other) in enumerate(streets):
            for start, end, way in ((one, other, 0), (other, one, 1)):
                if start in paths and end not in paths:
                    paths[end] = paths[start] + [(street, way)]
    for street, (one, other) in enumerate(streets):
        home = [(step, 1 - way) for step, way in paths[other][::-1]]
        rounds.append(paths[one] + [(street, 0)] + home)
    return rounds


def leads(signing, rounds):
    return [sum(1 if signing[street] == way else -1 for street, way in steps) for steps in rounds]


def bring(plan, brought):
    """Whether some sweeps bring it: the last town's times are none, the others' are solved for."""
    many, streets = plan
    size = many - 1
    rows = [[Fraction(0)] * size + [Fraction(brought[town])] for town in range(size)]
    for one, other in streets:
        for town, end in ((one, other), (other, one)):
            if town < size:
                rows[town][town] -= 1
                if end < size:
                    rows[town][end] += 1
    for at in range(size):
        pivot = next(row for row in rows[at:] if row[at])
        rows.remove(pivot)
        rows.insert(at, [part / pivot[at] for part in pivot])
        for other in range(size):
            if other != at:
                factor = rows[other][at]
                rows[other] = [part - factor * by for part, by in zip(rows[other], rows[at])]
    return sum(brought) == 0 and all(row[-1].denominator == 1 for row in rows)


class Promise(Case):
    def test_by_rings_alone_just_where_the_outs_are_alike(self):
        for plan in PLANS:
            found = kinds(plan, ("ring",))
            told = [{outs(plan, signing) for signing in kind} for kind in found]
            self.assertTrue(all(len(some) == 1 for some in told))
            self.assertEqual(len(set.union(*told)), len(found))

    def test_by_shores_alone_just_where_all_leads_are_alike(self):
        for plan in PLANS:
            rounds = round_walks(plan)
            found = kinds(plan, ("shore",))
            told = [{tuple(leads(signing, rounds)) for signing in kind} for kind in found]
            self.assertTrue(all(len(some) == 1 for some in told))
            self.assertEqual(len(set.union(*told)), len(found))

    def test_by_both_just_where_sweeps_bring_what_the_outs_differ_by(self):
        for plan in PLANS:
            found = kinds(plan, ("ring", "shore"))
            for at, kind in enumerate(found):
                first = outs(plan, kind[0])
                for place, other in enumerate(found):
                    for signing in other[:12]:
                        differ = [new - old for old, new in zip(first, outs(plan, signing))]
                        self.assertEqual(bring(plan, differ), at == place, plan)

    def test_how_many_kinds(self):
        for plan in PLANS:
            many = plan[0]
            forests = lots_of_streets(plan, lambda size, left: size == many - left)
            holding = lots_of_streets(plan, lambda size, left: left == 1)
            trees = lots_of_streets(plan, lambda size, left: left == 1 and size == many - 1)
            self.assertEqual(len(kinds(plan, ("ring",))), forests)
            self.assertEqual(len(kinds(plan, ("shore",))), holding)
            self.assertEqual(len(kinds(plan, ("ring", "shore"))), trees)

    def test_each_kind_by_both_has_one_kind_by_rings_that_comes_to_all_from_a_root(self):
        for plan in PLANS:
            for root in range(plan[0]):
                for kind in kinds(plan, ("ring", "shore")):
                    told = [signing for signing in kind
                            if len(come_to(plan, signing, root)) == plan[0]]
                    self.assertEqual(set(told), helper.led_to_told(plan, told[0], ("ring",)))

    def test_each_street_lies_in_a_ring_or_at_a_shore_and_no_turn_changes_which(self):
        for plan in PLANS:
            for signing in helper.signings_of(plan):
                ringed = {street for ring in rings_of(plan, signing) for street in ring}
                shored = {street for street, (one, other) in enumerate(plan[1])
                          for shore in shores_of(plan, signing)
                          if (one in shore) != (other in shore)}
                self.assertEqual(ringed & shored, set())
                self.assertEqual(ringed | shored, set(range(len(plan[1]))))
                for turn in turns_of(plan, signing, ("ring", "shore")):
                    now = turned(plan, signing, turn)
                    self.assertEqual({street for ring in rings_of(plan, now) for street in ring},
                                     ringed)

    def test_rings_and_shores_never_mind_each_other(self):
        for plan in PLANS:
            for signing in helper.signings_of(plan):
                for ring in turns_of(plan, signing, ("ring",)):
                    for shore in turns_of(plan, signing, ("shore",)):
                        last = behind(plan, signing, (ring, shore))
                        self.just(behind(plan, signing, (shore, ring)), last)
                        self.just(rings_first(plan, signing, (shore, ring)), (ring, shore))


class SideBySide(Case):
    """The functions of all files told of the same plans and signings, those of nine streets too."""

    def test_by_rings(self):
        for plan in helper.SMALL_PLANS + helper.BIG_PLANS:
            for one, other in helper.some_pairs(plan, 6):
                there = outs(plan, one) == outs(plan, other)
                self.assertEqual(by_rings(plan, one, other)[0] == "row", there)
                self.assertEqual(fewest(plan, one, other, "rings") is not None, there)
                self.assertEqual(how_many_fewest(plan, one, other, "rings") > 0, there)

    def test_by_shores(self):
        for plan in helper.SMALL_PLANS + helper.BIG_PLANS:
            rounds = round_walks(plan)
            for one, other in helper.some_pairs(plan, 6):
                there = leads(one, rounds) == leads(other, rounds)
                self.assertEqual(by_shores(plan, one, other)[0] == "row", there)
                self.assertEqual(heights(plan, one, other) is not None, there)
                self.assertEqual(fewest(plan, one, other, "shores") is not None, there)
                self.assertEqual(how_many_fewest(plan, one, other, "shores") > 0, there)

    def test_by_both(self):
        for plan in helper.SMALL_PLANS + helper.BIG_PLANS:
            for one, other in helper.some_pairs(plan, 6):
                differ = [new - old for old, new in zip(outs(plan, one), outs(plan, other))]
                there = bring(plan, differ)
                self.assertEqual(by_both(plan, one, other)[0] == "row", there)
                self.assertEqual(sweeps(plan, one, other) is not None, there)
                self.assertEqual(least_times(plan, one, other) == 1, there)
                self.assertEqual(fewest(plan, one, other, "both") is not None, there)
                self.assertEqual(how_many_fewest(plan, one, other, "both") > 0, there)
                for root in range(plan[0]):
                    self.assertEqual(name_of(plan, one, root) == name_of(plan, other, root), there)

    def test_rings_alone_and_shores_alone_do_what_the_parts_of_a_row_of_both_do(self):
        for plan in helper.SMALL_PLANS + helper.BIG_PLANS:
            for one in helper.some_signings(plan, 6):
                row, other = helper.walk_row(plan, one, 9, lambda place: 5 * place + 2)
                first = rings_first(plan, one, row)
                cut = len([turn for turn in row if turn[0] == "ring"])
                middle = behind(plan, one, first[:cut])
                self.just(behind(plan, one, first), other)
                self.assertEqual(by_rings(plan, one, middle)[0], "row")
                self.assertEqual(by_shores(plan, middle, other)[0], "row")
                self.just(in_rings(plan, other), in_rings(plan, one))

    def test_counts(self):
        for plan in helper.SMALL_PLANS + helper.BIG_PLANS:
            for way, word in (("rings", "forests"), ("shores", "holding"), ("both", "trees")):
                self.just(how_many_kinds(plan, way), how_many_lots(plan, word))
                for signing in helper.some_signings(plan, 3):
                    self.just(how_many(plan, signing, way), sum(levels(plan, signing, way)))
            names = {name_of(plan, signing, 0) for signing in helper.signings_of(plan)}
            self.assertEqual(len(names), how_many_lots(plan, "trees"))
            free = [signing for signing in helper.signings_of(plan) if in_rings(plan, signing) == ()]
            self.just(how_many_without(plan, "rings"), len(free))

    def test_names_and_the_signings_that_they_name(self):
        for plan in helper.SMALL_PLANS + helper.BIG_PLANS:
            for signing in helper.some_signings(plan, 5):
                for root in range(plan[0]):
                    _, last = rooted(plan, signing, root)
                    self.just(name_of(plan, signing, root), outs(plan, last))
                    self.just(name_by(plan, outs(plan, last), root), outs(plan, last))
                    self.assertEqual(by_shores(plan, signing, last)[0], "row")

    def test_called_otherwise_and_turned_about_all_is_as_many(self):
        for plan in helper.SMALL_PLANS + helper.BIG_PLANS:
            order = tuple((town + 1) % plan[0] for town in range(plan[0]))
            for signing in helper.some_signings(plan, 3):
                for other in (called(plan, signing, order), (plan, turned_about(plan, signing))):
                    self.assertEqual(len(rings_of(*other)), len(rings_of(plan, signing)))
                    self.assertEqual(len(shores_of(*other)), len(shores_of(plan, signing)))
                    self.assertEqual(len(in_rings(*other)), len(in_rings(plan, signing)))
                    for way in ("rings", "shores", "both"):
                        self.just(levels(*other, way), levels(plan, signing, way))
                        self.just(how_many_kinds(other[0], way), how_many_kinds(plan, way))

    def test_a_keeper_and_a_desk_tell_what_the_functions_tell(self):
        for plan in helper.SMALL_PLANS + helper.BIG_PLANS:
            for one in helper.some_signings(plan, 4):
                row, other = helper.walk_row(plan, one, 5, lambda place: 7 * place + 1)
                keeper, desk = Keeper(plan, one), Desk()
                desk.say("plan " + signing_text(plan, one))
                keeper.play(row)
                for turn in row:
                    self.just(desk.say(row_text(plan, (turn,))), "ok")
                self.just(keeper.signing(), other)
                self.just(read_signing(desk.say("show")), (plan, other))
                self.just(desk.say("row"), row_text(plan, keeper.row()))
                self.just(desk.say("outs").split(" "), [str(out) for out in outs(plan, other)])
                self.just(desk.say("rings"), str(len(rings_of(plan, other))))
                self.just(desk.say("shores"), str(len(shores_of(plan, other))))
                for root in range(plan[0]):
                    self.just(desk.say("name " + str(root)).split(" "),
                              [str(out) for out in name_of(plan, other, root)])
                for way in ("rings", "shores", "both"):
                    self.just(desk.say("kinds " + way), str(how_many_kinds(plan, way)))
                far = len(fewest(plan, other, one, "both"))
                self.just(desk.say("far " + signing_text(plan, one)), str(far))

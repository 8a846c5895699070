"""Points 80 and 81: how many lots, kinds and signings there are."""

from itertools import combinations

from ringshores.counts import how_many, how_many_kinds, how_many_lots, how_many_without
from ringshores.errors import NoPlan, NoSigning, NoWord
from tests import helper
from tests.helper import (ALONE, BIG_PLANS, FLAG, FLAG_SIGNING, KITE, NINE_LIKE, PAIR, PATH, PRISM,
                          SMALL_PLANS, SQUARE, TRIANGLE, TRIPLETS, TWINS, Case)

WORDS = {"rings": ("ring",), "shores": ("shore",), "both": ("ring", "shore")}
NO_WORDS = [None, True, 0, 1, "", "ring", "shore", "Rings", "rings ", " both", "tree", "forest", "boths",
            (), ("rings",), ["rings"], {"rings": 0}, ("rings", "shores"), ("forests", "holding")]


def is_forest_told(streets):
    """Whether no lot of the streets, in which each town met is met twice, leads round."""
    for size in range(2, len(streets) + 1):
        for lot in combinations(streets, size):
            ends = [town for street in lot for town in street]
            if all(ends.count(town) == 2 for town in ends):
                return False
    return True


def lots_told(plan, word):
    many, streets = plan
    found = 0
    for lot in helper.lots(len(streets)):
        here = [streets[street] for street in lot]
        holds = len(set(helper.pieces(many, here))) == 1
        if (word == "forests" or holds) and (word == "holding" or is_forest_told(here)):
            found += 1
    return found


def kinds_told(plan, way):
    """How many kinds there are, each signing's own gone through turn by turn."""
    left = set(helper.signings_of(plan))
    kinds = 0
    while left:
        left -= helper.led_to_told(plan, min(left), WORDS[way])
        kinds += 1
    return kinds


class Lots(Case):
    def test_by_hand(self):
        for plan, forests, holding, trees in ((ALONE, 1, 1, 1), (PAIR, 2, 1, 1), (TWINS, 3, 3, 2),
                                              (TRIPLETS, 4, 7, 3), (PATH, 4, 1, 1), (TRIANGLE, 7, 4, 3),
                                              (SQUARE, 15, 5, 4), (helper.ALL_FOUR, 38, 38, 16),
                                              (NINE_LIKE, 10, 511, 9), (helper.STAR, 32, 1, 1),
                                              (PRISM, 314, 198, 75), (helper.CROSSES, 328, 205, 81)):
            self.just(how_many_lots(plan, "forests"), forests)
            self.just(how_many_lots(plan, "holding"), holding)
            self.just(how_many_lots(plan, "trees"), trees)

    def test_each_lot_gone_through(self):
        for plan in SMALL_PLANS + BIG_PLANS:
            for word in ("forests", "holding", "trees"):
                self.just(how_many_lots(plan, word), lots_told(plan, word))

    def test_what_is_no_word_of_these(self):
        for plan in (ALONE, TRIANGLE):
            for word in NO_WORDS + ["rings", "shores", "both"]:
                self.refused(NoWord, how_many_lots, plan, word)
            self.refused(NoPlan, how_many_lots, (0, ()), "rings")


class Kinds(Case):
    def test_by_hand(self):
        for plan, rings, shores, both in ((ALONE, 1, 1, 1), (PAIR, 2, 1, 1), (TWINS, 3, 3, 2),
                                          (TRIANGLE, 7, 4, 3), (NINE_LIKE, 10, 511, 9)):
            self.just(how_many_kinds(plan, "rings"), rings)
            self.just(how_many_kinds(plan, "shores"), shores)
            self.just(how_many_kinds(plan, "both"), both)

    def test_each_kind_gone_through(self):
        for plan in SMALL_PLANS + [NINE_LIKE, helper.LOOSE_SIX]:
            for way in WORDS:
                self.just(how_many_kinds(plan, way), kinds_told(plan, way))

    def test_what_is_no_way(self):
        for plan in (ALONE, TRIANGLE):
            for word in NO_WORDS + ["forests", "holding", "trees"]:
                self.refused(NoWord, how_many_kinds, plan, word)
        self.refused(NoPlan, how_many_kinds, [1, ()], "forests")


class Many(Case):
    def test_by_hand(self):
        for plan, signing, rings, shores, both in ((ALONE, (), 1, 1, 1), (PAIR, (1,), 1, 2, 2),
                                                   (TWINS, (0, 1), 2, 1, 2), (TWINS, (0, 0), 1, 2, 2),
                                                   (PATH, (0, 0), 1, 4, 4),
                                                   (NINE_LIKE, (0,) * 9, 1, 2, 2),
                                                   (NINE_LIKE, (0, 1, 1, 1, 0, 0, 0, 0, 0), 84, 1, 84),
                                                   (FLAG, FLAG_SIGNING, 2, 4, 8)):
            self.just(how_many(plan, signing, "rings"), rings)
            self.just(how_many(plan, signing, "shores"), shores)
            self.just(how_many(plan, signing, "both"), both)

    def test_all_that_turns_lead_to(self):
        for plan in SMALL_PLANS:
            for signing in helper.signings_of(plan):
                for way, words in WORDS.items():
                    self.just(how_many(plan, signing, way),
                              len(helper.led_to_told(plan, signing, words)))

    def test_nine_streets(self):
        for plan in BIG_PLANS:
            for signing in helper.some_signings(plan, 5):
                for way, words in WORDS.items():
                    self.just(how_many(plan, signing, way),
                              len(helper.led_to_told(plan, signing, words)))

    def test_one_of_each_kind_have_all_signings_together(self):
        for way in WORDS:
            parts = [how_many(PRISM, signing, way) for signing in helper.signings_of(PRISM)]
            kinds = sum(parts.count(part) // part for part in set(parts))
            self.assertEqual(kinds, how_many_kinds(PRISM, way))

    def test_refusals(self):
        for word in NO_WORDS + ["forests", "holding", "trees"]:
            self.refused(NoWord, how_many, TWINS, (0, 0), word)
            self.refused(NoSigning, how_many, TWINS, (0, 0, 0), word)
            self.refused(NoPlan, how_many, (2, ()), (0, 0, 0), word)


class Without(Case):
    def test_by_hand(self):
        for plan, rings, shores in ((ALONE, 1, 1), (PAIR, 2, 0), (TWINS, 2, 2), (TRIPLETS, 2, 6),
                                    (PATH, 4, 0), (TRIANGLE, 6, 2), (SQUARE, 14, 2),
                                    (helper.ALL_FOUR, 24, 24), (NINE_LIKE, 2, 510), (helper.STAR, 32, 0),
                                    (helper.CROSSES, 230, 102)):
            self.just(how_many_without(plan, "rings"), rings)
            self.just(how_many_without(plan, "shores"), shores)

    def test_each_signing_gone_through(self):
        for plan in SMALL_PLANS:
            every = helper.signings_of(plan)
            self.just(how_many_without(plan, "rings"),
                      len([signing for signing in every if helper.rings_told(plan, signing) == ()]))
            self.just(how_many_without(plan, "shores"),
                      len([signing for signing in every if helper.shores_told(plan, signing) == ()]))

    def test_nine_streets(self):
        for plan in BIG_PLANS:
            without = [signing for signing in helper.signings_of(plan)
                       if helper.shores_told(plan, signing) == ()]
            self.just(how_many_without(plan, "shores"), len(without))
            # Without a ring just where some town ahead has streets out alone, again and again.
            free = [signing for signing in helper.signings_of(plan) if self.in_a_row(plan, signing)]
            self.just(how_many_without(plan, "rings"), len(free))

    def in_a_row(self, plan, signing):
        ends = [helper.start_and_end(plan, signing, street) for street in range(len(signing))]
        while ends:
            firsts = {start for start, _ in ends} - {end for _, end in ends}
            if not firsts:
                return False
            ends = [(start, end) for start, end in ends if start not in firsts]
        return True

    def test_what_is_no_word_of_these(self):
        for plan in (ALONE, TRIANGLE):
            for word in NO_WORDS + ["forests", "holding", "trees", "both"]:
                self.refused(NoWord, how_many_without, plan, word)
        self.refused(NoPlan, how_many_without, None, None)


class Anything(Case):
    def test_words(self):
        for thing in helper.odd_things():
            self.refused(NoWord, how_many_lots, FLAG, thing)
            self.refused(NoWord, how_many_kinds, FLAG, thing)
            self.refused(NoWord, how_many_without, FLAG, thing)
            self.refused(NoWord, how_many, FLAG, FLAG_SIGNING, thing)
            if repr(thing) not in [repr(signing) for signing in helper.signings_of(KITE)]:
                self.refused(NoSigning, how_many, KITE, thing, "both")

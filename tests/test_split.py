"""Point 30: each street of a signing in a ring or at a shore, just one of both."""

from ringshores.errors import NoStreet
from ringshores.split import holder, in_rings, shows_holder
from tests import helper
from tests.helper import (ALONE, BIG_PLANS, BOW, FLAG, FLAG_SIGNING, NINE_LIKE, PAIR, SMALL_PLANS,
                          TRIANGLE, TRIPLETS, TWINS, Case)


def shows_told(plan, signing, street, thing):
    """Point 30's words, one by one."""
    if type(thing) is not tuple or len(thing) != 2 or thing[0] not in ("ring", "shore"):
        return False
    if not helper.is_turn_told(plan, signing, thing, ("ring", "shore")):
        return False
    if thing[0] == "ring":
        return street in thing[1]
    start, end = helper.start_and_end(plan, signing, street)
    return start in thing[1] and end not in thing[1]


def ringed_told(plan, signing):
    return tuple(sorted({street for ring in helper.rings_told(plan, signing) for street in ring}))


class Holder(Case):
    def test_where_just_one_can_be_told(self):
        self.just(holder(PAIR, (0,), 0), ("shore", (0,)))
        self.just(holder(PAIR, (1,), 0), ("shore", (1,)))
        self.just(holder(TWINS, (0, 0), 1), ("shore", (0,)))
        self.just(holder(TWINS, (0, 1), 1), ("ring", (0, 1)))
        self.just(holder(TRIPLETS, (0, 1, 0), 0), ("ring", (0, 1)))
        self.just(holder(TRIPLETS, (0, 1, 0), 2), ("ring", (1, 2)))
        for street in range(3):
            self.just(holder(TRIANGLE, (0, 1, 0), street), ("ring", (0, 1, 2)))
            self.just(holder(FLAG, FLAG_SIGNING, street), ("ring", (0, 1, 2)))
        self.just(holder(TRIANGLE, (0, 0, 0), 0), ("shore", (0,)))
        self.just(holder(TRIANGLE, (0, 0, 0), 2), ("shore", (0, 1)))
        self.just(holder(FLAG, FLAG_SIGNING, 3), ("shore", (0, 1, 2)))
        self.just(holder(FLAG, FLAG_SIGNING, 4), ("shore", (0, 1, 2, 3)))

    def test_two_rings_that_share_a_town_are_told_one_alone(self):
        for street in range(3):
            self.just(holder(BOW, (0, 1, 0, 0, 1, 0), street), ("ring", (0, 1, 2)))
            self.just(holder(BOW, (0, 1, 0, 0, 1, 0), street + 3), ("ring", (3, 4, 5)))

    def test_each_street_of_each_signing(self):
        for plan in SMALL_PLANS + BIG_PLANS:
            signings = helper.signings_of(plan)
            for signing in signings if plan in SMALL_PLANS else signings[::3]:
                for street in range(len(plan[1])):
                    told = holder(plan, signing, street)
                    self.assertTrue(shows_told(plan, signing, street, told), (plan, signing, told))
                    self.assertIs(shows_holder(plan, signing, street, told), True)

    def test_just_one_of_both_is_so(self):
        for plan in SMALL_PLANS + BIG_PLANS:
            for signing in helper.some_signings(plan):
                turns = helper.turns_told(plan, signing)
                for street in range(len(plan[1])):
                    words = {turn[0] for turn in turns if shows_told(plan, signing, street, turn)}
                    self.assertEqual(words, {holder(plan, signing, street)[0]})

    def test_what_is_no_street(self):
        for plan in (ALONE, PAIR, TWINS, FLAG, NINE_LIKE):
            signing = (0,) * len(plan[1])
            streets = {repr(street) for street in range(len(signing))}
            for thing in helper.odd_things() + [len(signing), len(signing) + 1, -len(signing)]:
                if repr(thing) not in streets:
                    self.refused(NoStreet, holder, plan, signing, thing)
                    self.refused(NoStreet, shows_holder, plan, signing, thing, ("ring", (0, 1)))
                    self.refused(NoStreet, shows_holder, plan, signing, thing, thing)


class Shows(Case):
    def looks_right(self, plan, signing, street, thing):
        self.assertIs(shows_holder(plan, signing, street, thing),
                      shows_told(plan, signing, street, thing),
                      repr((plan, signing, street, thing))[:300])

    def test_by_hand(self):
        for street in range(3):
            self.assertIs(shows_holder(FLAG, FLAG_SIGNING, street, ("ring", (0, 1, 2))), True)
            self.assertIs(shows_holder(FLAG, FLAG_SIGNING, street, ("shore", (0, 1, 2))), False)
        self.assertIs(shows_holder(FLAG, FLAG_SIGNING, 3, ("shore", (0, 1, 2))), True)
        self.assertIs(shows_holder(FLAG, FLAG_SIGNING, 3, ("shore", (0, 1, 2, 3))), False)
        self.assertIs(shows_holder(FLAG, FLAG_SIGNING, 3, ("shore", (3, 4))), False)
        self.assertIs(shows_holder(FLAG, FLAG_SIGNING, 3, ("ring", (0, 1, 2))), False)
        self.assertIs(shows_holder(FLAG, FLAG_SIGNING, 3, ("ring", (3,))), False)

    def test_a_ring_or_a_shore_of_another_street(self):
        self.assertIs(shows_holder(TRIPLETS, (0, 1, 0), 0, ("ring", (1, 2))), False)
        self.assertIs(shows_holder(TRIPLETS, (0, 1, 0), 1, ("ring", (1, 2))), True)
        self.assertIs(shows_holder(helper.PATH, (0, 1), 0, ("shore", (2,))), False)
        self.assertIs(shows_holder(helper.PATH, (0, 1), 0, ("shore", (0,))), True)
        self.assertIs(shows_holder(helper.PATH, (0, 1), 0, ("shore", (0, 2))), True)

    def test_each_lot_of_streets_and_of_towns(self):
        for plan in SMALL_PLANS:
            for signing in helper.some_signings(plan, 6):
                for street in range(len(plan[1])):
                    for lot in helper.lots(len(plan[1]) + 1):
                        self.looks_right(plan, signing, street, ("ring", lot))
                        self.looks_right(plan, signing, street, ("shore", lot))

    def test_each_ring_and_shore_of_nine_streets(self):
        for plan in BIG_PLANS:
            for signing in helper.some_signings(plan, 12):
                for turn in helper.turns_told(plan, signing):
                    for street in range(9):
                        self.looks_right(plan, signing, street, turn)

    def test_anything(self):
        for plan, signing in ((PAIR, (0,)), (TWINS, (0, 1)), (FLAG, FLAG_SIGNING)):
            for street in range(len(signing)):
                for thing in helper.odd_things():
                    self.looks_right(plan, signing, street, thing)
        self.assertIs(shows_holder(TWINS, (0, 1), 0, ["ring", (0, 1)]), False)
        self.assertIs(shows_holder(TWINS, (0, 1), 0, ("ring", [0, 1])), False)
        self.assertIs(shows_holder(TWINS, (0, 1), 0, ("ring", (False, True))), False)
        self.assertIs(shows_holder(TWINS, (0, 1), 0, ("ring", (1, 0))), False)
        self.assertIs(shows_holder(TWINS, (0, 1), 0, ("Ring", (0, 1))), False)
        self.assertIs(shows_holder(PAIR, (0,), 0, ("shore", (False,))), False)
        self.assertIs(shows_holder(PAIR, (0,), 0, ("shore", 0)), False)

    def test_what_was_told_with_parts_otherwise(self):
        fillings = [None, True, "", "ring", "shore", [], {}, 0, 1, 3, ()]
        for plan, signing in ((PAIR, (0,)), (TWINS, (0, 1)), (TRIANGLE, (0, 0, 0)),
                              (FLAG, FLAG_SIGNING)):
            for street in range(len(signing)):
                told = holder(plan, signing, street)
                for thing in helper.likes(told, fillings):
                    self.looks_right(plan, signing, street, thing)


class InRings(Case):
    def test_by_hand(self):
        self.just(in_rings(ALONE, ()), ())
        self.just(in_rings(PAIR, (1,)), ())
        self.just(in_rings(TWINS, (0, 0)), ())
        self.just(in_rings(TWINS, (1, 0)), (0, 1))
        self.just(in_rings(FLAG, FLAG_SIGNING), (0, 1, 2))
        self.just(in_rings(BOW, (0, 0, 0, 0, 1, 0)), (3, 4, 5))
        self.just(in_rings(NINE_LIKE, (0,) * 9), ())
        self.just(in_rings(NINE_LIKE, (0,) * 8 + (1,)), tuple(range(9)))

    def test_all_against_all_rings(self):
        for plan in SMALL_PLANS:
            for signing in helper.signings_of(plan):
                self.just(in_rings(plan, signing), ringed_told(plan, signing))
        for plan in BIG_PLANS:
            for signing in helper.some_signings(plan):
                self.just(in_rings(plan, signing), ringed_told(plan, signing))

    def test_no_turn_changes_it(self):
        for plan in SMALL_PLANS + BIG_PLANS:
            for signing in helper.some_signings(plan):
                told = in_rings(plan, signing)
                for turn in helper.turns_told(plan, signing):
                    self.just(in_rings(plan, helper.turned_told(plan, signing, turn)), told)

"""Points 50 and 51: walks and leads, and from one signing to another by shores alone."""

from itertools import product

from ringshores.errors import NoWalk
from ringshores.shores import by_shores, heights, lead, shows_by_shores
from tests import helper
from tests.helper import (ALONE, BIG_PLANS, FLAG, FLAG_SIGNING, KITE, NINE_LIKE, PAIR, PATH,
                          SMALL_PLANS, TRIANGLE, TWINS, Case)


def shows_told(plan, one, other, thing):
    """Point 51's words, one by one."""
    if type(thing) is not tuple or len(thing) < 2:
        return False
    if thing[0] == "row":
        return len(thing) == 2 and helper.row_end_told(plan, one, thing[1], ("shore",)) == other
    steps = helper.steps_told(plan, thing[1:])
    if thing[0] != "walk" or steps is None or steps[-1][2] != thing[1]:
        return False
    return helper.lead_told(plan, one, steps) != helper.lead_told(plan, other, steps)


def are_heights_told(plan, one, other, thing):
    """Whether they are heights, by point 51's words."""
    if type(thing) is not tuple or len(thing) != plan[0] or min(thing) != 0:
        return False
    for street in range(len(one)):
        start, end = helper.start_and_end(plan, one, street)
        if thing[end] - thing[start] != (1 if one[street] != other[street] else 0):
            return False
    return all(type(height) is int for height in thing)


class Lead(Case):
    def test_by_hand(self):
        self.just(lead(PAIR, (0,), (0, (0,))), 1)
        self.just(lead(PAIR, (0,), (1, (0,))), -1)
        self.just(lead(PAIR, (1,), (0, (0,))), -1)
        self.just(lead(PAIR, (1,), (1, (0,))), 1)
        self.just(lead(PAIR, (0,), (0, (0, 0))), 0)
        self.just(lead(TWINS, (0, 1), (0, (0, 1))), 2)
        self.just(lead(TWINS, (0, 1), (1, (0, 1))), -2)
        self.just(lead(TRIANGLE, (0, 1, 0), (0, (0, 2, 1))), 3)
        self.just(lead(TRIANGLE, (0, 1, 0), (0, (1, 2, 0))), -3)
        self.just(lead(TRIANGLE, (0, 0, 0), (0, (0, 2, 1))), 1)

    def test_walks_that_are_not_closed(self):
        self.just(lead(FLAG, FLAG_SIGNING, (0, (0,))), 1)
        self.just(lead(FLAG, FLAG_SIGNING, (4, (4, 3, 2))), -3)
        self.just(lead(FLAG, FLAG_SIGNING, (0, (0, 2, 3, 4))), 4)
        self.just(lead(FLAG, FLAG_SIGNING, (0, (1, 3, 4))), 1)

    def test_all_walks_of_few_streets(self):
        for plan in (PAIR, TWINS, helper.TRIPLETS, PATH, TRIANGLE, KITE):
            walks = helper.walks_told(plan, 4)
            for signing in helper.some_signings(plan, 6):
                for walk in walks:
                    self.just(lead(plan, signing, walk),
                              helper.lead_told(plan, signing, helper.steps_told(plan, walk)))

    def test_all_walks_of_few_streets_in_great_plans(self):
        for plan in BIG_PLANS + [helper.STAR, helper.BOW]:
            walks = helper.walks_told(plan, 3)
            for signing in helper.some_signings(plan, 4):
                for walk in walks:
                    self.just(lead(plan, signing, walk),
                              helper.lead_told(plan, signing, helper.steps_told(plan, walk)))

    def test_long_walks(self):
        self.just(lead(TWINS, (0, 1), (0, (0, 1) * 1000)), 2000)
        self.just(lead(TWINS, (0, 0), (0, (0, 1) * 1000 + (1,))), 1)
        self.refused(NoWalk, lead, TRIANGLE, (0, 1, 0), (0, (0, 2, 1) * 500 + (2,)))

    def test_what_is_no_walk(self):
        for walk in ((0, ()), (3, (0,)), (-1, (1,)), (True, (0,)), (False, (0,)), (None, (0,)),
                     (0, (2,)), (0, (0, 1)), (0, (0, 2, 2, 1)), (0, (3,)), (0, (-3,)), (0, (-1,)),
                     (1, (True,)), (0, (False,)), (0, [0]), [0, (0,)], (0, 0), (0, None),
                     (0, "0"), ("0", (0,)), (0, ((0,),)), (0, ([0],)), (0, ({},)), (0, (None,)),
                     (0, (0, None)), (0,), (), (0, (0,), ()), (0, 0, 2), ((0,), (0,)), ([], (0,)),
                     ({}, (0,)), (0, {0: 0}), {0: (0,)}, None, 0, "walk", ("walk", 0, (0,)),
                     (0, (0, 2, 1, 9999999999999)), (9999999999999, (0,))):
            self.refused(NoWalk, lead, TRIANGLE, (0, 1, 0), walk)
        for thing in helper.odd_things():
            self.refused(NoWalk, lead, ALONE, (), thing)

    def test_anything_and_walks_with_parts_otherwise(self):
        fillings = [None, True, "", [], {}, 0, 1, 2, 3, ()]
        for plan, walk in ((PAIR, (0, (0,))), (TWINS, (1, (0, 1))), (TRIANGLE, (2, (1, 0, 2, 1))),
                           (FLAG, (3, (3, 1, 0, 2, 3)))):
            signing = (0, 1, 0, 1, 0)[:len(plan[1])]
            for thing in helper.odd_things() + list(helper.likes(walk, fillings)):
                steps = helper.steps_told(plan, thing)
                if steps is None:
                    self.refused(NoWalk, lead, plan, signing, thing)
                else:
                    self.just(lead(plan, signing, thing), helper.lead_told(plan, signing, steps))


class ByShores(Case):
    def answers_right(self, plan, one, other):
        told = by_shores(plan, one, other)
        self.assertTrue(shows_told(plan, one, other, told), (plan, one, other, told))
        self.assertIs(shows_by_shores(plan, one, other, told), True)
        levels = heights(plan, one, other)
        if told[0] == "row":
            self.assertTrue(are_heights_told(plan, one, other, levels), (plan, one, other, levels))
        else:
            self.just(levels, None)
        return told[0]

    def test_one_town_without_a_street(self):
        self.just(by_shores(ALONE, (), ()), ("row", ()))
        self.just(heights(ALONE, (), ()), (0,))

    def test_some_by_hand(self):
        self.assertEqual(self.answers_right(PAIR, (0,), (1,)), "row")
        self.assertEqual(self.answers_right(TWINS, (0, 0), (1, 1)), "row")
        self.assertEqual(self.answers_right(TWINS, (0, 0), (0, 1)), "walk")
        self.assertEqual(self.answers_right(TWINS, (0, 1), (1, 0)), "walk")
        self.assertEqual(self.answers_right(TRIANGLE, (0, 0, 0), (1, 1, 0)), "row")
        self.assertEqual(self.answers_right(TRIANGLE, (0, 0, 0), (1, 1, 1)), "walk")
        self.assertEqual(self.answers_right(TRIANGLE, (0, 1, 0), (1, 0, 1)), "walk")
        self.assertEqual(self.answers_right(FLAG, FLAG_SIGNING, (0, 1, 0, 1, 1)), "row")
        self.assertEqual(self.answers_right(FLAG, FLAG_SIGNING, (1, 0, 1, 1, 1)), "walk")

    def test_two_equal_signings(self):
        for plan in SMALL_PLANS + BIG_PLANS:
            for signing in helper.some_signings(plan):
                self.assertEqual(self.answers_right(plan, signing, signing), "row")
                self.just(heights(plan, signing, signing), (0,) * plan[0])

    def test_all_signings_against_all_that_shores_lead_to(self):
        for plan in SMALL_PLANS:
            for one in helper.some_signings(plan, 32):
                led = helper.led_to_told(plan, one, ("shore",))
                for other in helper.signings_of(plan):
                    self.assertEqual(self.answers_right(plan, one, other) == "row", other in led)

    def test_nine_streets(self):
        for plan in BIG_PLANS:
            for one, other in helper.some_pairs(plan, 20):
                self.answers_right(plan, one, other)
        for one, other in helper.some_pairs(NINE_LIKE, 30):
            wanted = one == other or (len(set(one)) == 1 and len(set(one + other)) == 2
                                      and len(set(other)) == 1)
            self.assertEqual(self.answers_right(NINE_LIKE, one, other) == "row", wanted)

    def test_nine_streets_with_many_shores_turned(self):
        for plan in BIG_PLANS:
            for one in helper.some_signings(plan, 24):
                other = helper.turned_on_told(plan, one, "shore", 8)
                self.assertEqual(self.answers_right(plan, one, other), "row")

    def test_just_one_of_both_is_so(self):
        for plan in (PAIR, TWINS, helper.TRIPLETS, PATH, TRIANGLE):
            walks = [("walk",) + walk for walk in helper.walks_told(plan, 4)]
            for one, other in product(helper.signings_of(plan), repeat=2):
                barred = any(shows_told(plan, one, other, walk) for walk in walks)
                self.assertEqual(by_shores(plan, one, other)[0], "walk" if barred else "row")


class Heights(Case):
    def test_by_hand(self):
        self.just(heights(PAIR, (0,), (1,)), (0, 1))
        self.just(heights(PAIR, (1,), (0,)), (1, 0))
        self.just(heights(TWINS, (0, 0), (1, 1)), (0, 1))
        self.just(heights(TWINS, (0, 0), (1, 0)), None)
        self.just(heights(PATH, (0, 0), (1, 1)), (0, 1, 2))
        self.just(heights(PATH, (1, 1), (0, 0)), (2, 1, 0))
        self.just(heights(PATH, (0, 1), (1, 0)), (0, 1, 0))
        self.just(heights(PATH, (1, 0), (1, 1)), (0, 0, 1))
        self.just(heights(TRIANGLE, (0, 0, 0), (1, 1, 0)), (0, 1, 1))
        self.just(heights(TRIANGLE, (0, 0, 0), (0, 1, 1)), (0, 0, 1))
        self.just(heights(TRIANGLE, (0, 1, 0), (1, 0, 1)), None)
        self.just(heights(FLAG, FLAG_SIGNING, (0, 1, 0, 1, 1)), (0, 0, 0, 1, 2))

    def test_six_towns_of_six_heights(self):
        line = (6, tuple((town, town + 1) for town in range(5)))
        self.just(heights(line, (0,) * 5, (1,) * 5), (0, 1, 2, 3, 4, 5))
        self.just(heights(line, (1,) * 5, (0,) * 5), (5, 4, 3, 2, 1, 0))

    def test_there_are_no_others(self):
        for plan in (PAIR, TWINS, PATH, TRIANGLE, KITE):
            for one, other in helper.some_pairs(plan, 12):
                found = [thing for thing in product(range(plan[0]), repeat=plan[0])
                         if are_heights_told(plan, one, other, thing)]
                self.just(heights(plan, one, other), found[0] if found else None)
                self.assertLessEqual(len(found), 1)

    def test_led_the_other_way_they_are_the_other_way_about(self):
        for plan in SMALL_PLANS + BIG_PLANS:
            for one, other in helper.some_pairs(plan, 12):
                levels = heights(plan, one, other)
                if levels is None:
                    self.just(heights(plan, other, one), None)
                else:
                    self.just(heights(plan, other, one),
                              tuple(max(levels) - height for height in levels))


class Shows(Case):
    def looks_right(self, plan, one, other, thing):
        self.assertIs(shows_by_shores(plan, one, other, thing), shows_told(plan, one, other, thing),
                      repr((plan, one, other, thing))[:300])

    def test_rows_by_hand(self):
        first, last = ("shore", (0, 1, 2)), ("shore", (3, 4))
        for row, other in (((), FLAG_SIGNING), ((first,), (0, 1, 0, 1, 0)),
                           ((first, last), FLAG_SIGNING), ((first, last, first), (0, 1, 0, 1, 0))):
            self.assertIs(shows_by_shores(FLAG, FLAG_SIGNING, other, ("row", row)), True)
            self.assertIs(shows_by_shores(FLAG, FLAG_SIGNING, (0, 1, 0, 1, 1), ("row", row)), False)
        self.assertIs(shows_by_shores(FLAG, FLAG_SIGNING, (0, 1, 0, 1, 0), ("row", (last,))), False)

    def test_no_row_with_a_ring(self):
        ring, shore = ("ring", (0, 1, 2)), ("shore", (0, 1, 2))
        other = (0, 1, 0, 1, 0)
        self.assertIs(shows_by_shores(FLAG, FLAG_SIGNING, other, ("row", (shore,))), True)
        self.assertIs(shows_by_shores(FLAG, FLAG_SIGNING, other, ("row", (ring, ring, shore))), False)
        self.assertIs(shows_by_shores(FLAG, FLAG_SIGNING, (1, 0, 1, 0, 0), ("row", (ring,))), False)

    def test_walks_by_hand(self):
        one, other = (0, 1, 0), (0, 0, 0)
        for town, streets, shown in ((0, (0, 2, 1), True), (1, (2, 1, 0), True),
                                     (0, (1, 2, 0), True), (0, (0, 2, 1) * 20, True),
                                     (0, (0, 0, 1, 2, 0), True), (0, (1, 2), False),
                                     (0, (1,), False), (0, (1, 1), False), (0, (0, 0), False),
                                     (0, (), False), (1, (0, 2, 1), False), (0, (0, 1, 2), False),
                                     (0, (0, 2, 1, 1, 2, 0), False), (3, (0, 2, 1), False),
                                     (False, (0, 2, 1), False), (0, [0, 2, 1], False),
                                     (0, (False, 2, True), False)):
            self.assertIs(shows_by_shores(TRIANGLE, one, other, ("walk", town, streets)), shown)
        self.assertIs(shows_by_shores(TRIANGLE, one, other, ("walk", (0, (0, 2, 1)))), False)
        self.assertIs(shows_by_shores(TRIANGLE, one, other, ("row", 0, (0, 2, 1))), False)
        self.assertIs(shows_by_shores(TRIANGLE, one, other, (0, (0, 2, 1))), False)
        self.assertIs(shows_by_shores(TRIANGLE, (0, 0, 0), (1, 1, 0), ("walk", 0, (0, 2, 1))), False)

    def test_each_row_of_at_most_two_turns_and_each_walk_of_few_streets(self):
        for plan in SMALL_PLANS:
            walks = helper.walks_told(plan, 3)
            for one, other in helper.some_pairs(plan, 5):
                for town, streets in walks:
                    self.looks_right(plan, one, other, ("walk", town, streets))
                for lot in helper.lots(plan[0] + 1):
                    self.looks_right(plan, one, other, ("row", (("shore", lot),)))
                for row in helper.rows_of_two_told(plan, one, 12):
                    self.looks_right(plan, one, other, ("row", row))

    def test_long_rows(self):
        there, home = ("shore", (0,)), ("shore", (1,))
        for length in (20, 21, 300):
            row = (there, home) * length
            self.assertIs(shows_by_shores(TWINS, (0, 0), (0, 0), ("row", row)), True)
            self.assertIs(shows_by_shores(TWINS, (0, 0), (1, 1), ("row", row + (there,))), True)
            self.assertIs(shows_by_shores(TWINS, (0, 0), (0, 0), ("row", row + (home,))), False)
            self.assertIs(shows_by_shores(TWINS, (0, 0), (0, 0), ("row", list(row))), False)

    def test_anything(self):
        for plan, one, other in ((ALONE, (), ()), (PAIR, (0,), (1,)), (PAIR, (0,), (0,)),
                                 (TWINS, (0, 1), (1, 0)), (FLAG, FLAG_SIGNING, (1, 0, 1, 0, 1))):
            for thing in helper.odd_things():
                self.looks_right(plan, one, other, thing)
                self.looks_right(plan, one, other, ("row", thing))
                self.looks_right(plan, one, other, ("walk", 0, thing))
                self.looks_right(plan, one, other, ("walk", thing, (0, 1)))
                self.looks_right(plan, one, other, (thing, ()))
                self.looks_right(plan, one, other, (thing, 0, (0, 1)))

    def test_what_was_told_with_parts_otherwise(self):
        fillings = [None, True, "", "row", "walk", [], {}, 0, 2, (), ("shore", (0,)), ("ring", (0, 1))]
        for plan, one, other in ((TWINS, (0, 1), (1, 0)), (PAIR, (0,), (1,)), (PAIR, (0,), (0,)),
                                 (TWINS, (0, 0), (1, 1)), (TRIANGLE, (0, 0, 0), (1, 1, 0)),
                                 (FLAG, FLAG_SIGNING, (0, 1, 0, 1, 1)),
                                 (FLAG, FLAG_SIGNING, (1, 0, 1, 1, 0))):
            told = by_shores(plan, one, other)
            for thing in helper.likes(told, fillings):
                self.looks_right(plan, one, other, thing)

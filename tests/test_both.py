"""Points 60 and 61: sweeps and weights, and from one signing to another by rings and shores."""

from itertools import product

from ringshores.both import by_both, shows_by_both, sweeps
from tests import helper
from tests.helper import (ALONE, BIG_PLANS, BOW, FLAG, FLAG_SIGNING, KITE, NINE_LIKE, PAIR, PATH,
                          SMALL_PLANS, TRIANGLE, TRIPLETS, TWINS, Case)

BOTH = ("ring", "shore")


def are_weights_told(plan, number, weights):
    """Point 61's words for weights, one by one."""
    if type(number) is not int or number < 2:
        return False
    if type(weights) is not tuple or len(weights) != plan[0]:
        return False
    if not all(type(weight) is int and 0 <= weight <= number - 1 for weight in weights):
        return False
    for town in range(plan[0]):
        ends = [sum(street) - town for street in plan[1] if town in street]
        if (sum(weights[end] for end in ends) - weights[town] * len(ends)) % number != 0:
            return False
    return True


def weigh_told(plan, signing, weights):
    return sum(weight * out for weight, out in zip(weights, helper.outs_told(plan, signing)))


def shows_told(plan, one, other, thing):
    """Point 61's words, one by one."""
    if type(thing) is not tuple or len(thing) < 2:
        return False
    if thing[0] == "row":
        return len(thing) == 2 and helper.row_end_told(plan, one, thing[1], BOTH) == other
    if thing[0] != "weights" or len(thing) != 3 or not are_weights_told(plan, *thing[1:]):
        return False
    apart = weigh_told(plan, one, thing[2]) - weigh_told(plan, other, thing[2])
    return apart % thing[1] != 0


class Both(Case):
    def answers_right(self, plan, one, other):
        """The word that by_both tells, when all that it and sweeps tell is as the words say."""
        told = by_both(plan, one, other)
        self.assertTrue(shows_told(plan, one, other, told), (plan, one, other, told))
        self.assertIs(shows_by_both(plan, one, other, told), True)
        times = sweeps(plan, one, other)
        if told[0] == "weights":
            self.just(times, None)
            return told[0]
        words = [turn[0] for turn in told[1]]
        self.assertEqual(words, sorted(words), "rings, and behind them shores")
        self.assertEqual((type(times), len(times), min(times)), (tuple, plan[0], 0))
        self.assertTrue(all(type(often) is int for often in times))
        swept = helper.swept_told(plan, helper.outs_told(plan, one), times)
        self.just(swept, helper.outs_told(plan, other))
        return told[0]


class Sweeps(Case):
    def test_by_hand(self):
        self.just(sweeps(PAIR, (0,), (1,)), (1, 0))
        self.just(sweeps(PAIR, (1,), (0,)), (0, 1))
        self.just(sweeps(PATH, (0, 0), (1, 1)), (2, 1, 0))
        self.just(sweeps(PATH, (0, 1), (1, 0)), (1, 0, 1))
        self.just(sweeps(TWINS, (0, 0), (1, 1)), (1, 0))
        self.just(sweeps(TWINS, (0, 0), (0, 1)), None)
        self.just(sweeps(TRIPLETS, (0, 0, 1), (0, 1, 1)), None)
        self.just(sweeps(TRIANGLE, (0, 0, 0), (1, 1, 0)), (1, 0, 0))
        self.just(sweeps(TRIANGLE, (0, 0, 0), (1, 1, 1)), None)
        self.just(sweeps(TRIANGLE, (0, 1, 0), (1, 0, 1)), (0, 0, 0))
        self.just(sweeps(TRIANGLE, (0, 0, 0), (1, 0, 0)), None)
        self.just(sweeps(FLAG, FLAG_SIGNING, (1, 0, 1, 1, 1)), (2, 2, 2, 1, 0))

    def test_rings_alone_sweep_nothing(self):
        self.just(sweeps(TWINS, (0, 1), (1, 0)), (0, 0))
        self.just(sweeps(BOW, (0, 1, 0, 0, 1, 0), (1, 0, 1, 1, 0, 1)), (0,) * 5)

    def test_a_shore_that_is_turned_is_swept_once(self):
        for plan in SMALL_PLANS + BIG_PLANS:
            for signing in helper.some_signings(plan, 12):
                for shore in helper.shores_told(plan, signing):
                    other = helper.turned_told(plan, signing, ("shore", shore))
                    self.just(sweeps(plan, signing, other),
                              tuple(1 if town in shore else 0 for town in range(plan[0])))

    def test_there_are_no_others(self):
        for plan in (PAIR, TWINS, TRIPLETS, PATH, TRIANGLE, helper.FAT_TRIANGLE):
            every = [times for times in product(range(4), repeat=plan[0]) if min(times) == 0]
            for one, other in product(helper.signings_of(plan), repeat=2):
                first, second = helper.outs_told(plan, one), helper.outs_told(plan, other)
                found = [times for times in every
                         if helper.swept_told(plan, first, times) == second]
                self.assertLessEqual(len(found), 1)
                self.just(sweeps(plan, one, other), found[0] if found else None)


class ByBoth(Both):
    def test_one_town_without_a_street(self):
        self.just(by_both(ALONE, (), ()), ("row", ()))
        self.just(sweeps(ALONE, (), ()), (0,))

    def test_two_equal_signings(self):
        for plan in SMALL_PLANS + BIG_PLANS:
            for signing in helper.some_signings(plan):
                self.assertEqual(self.answers_right(plan, signing, signing), "row")
                self.just(sweeps(plan, signing, signing), (0,) * plan[0])

    def test_rings_and_behind_them_shores(self):
        told = by_both(FLAG, FLAG_SIGNING, (1, 0, 1, 1, 1))
        self.assertEqual(self.answers_right(FLAG, FLAG_SIGNING, (1, 0, 1, 1, 1)), "row")
        self.assertEqual({turn[0] for turn in told[1]}, {"ring", "shore"})
        self.assertEqual(told[1][0][0], "ring")
        self.assertEqual(told[1][-1][0], "shore")

    def test_some_by_hand(self):
        self.assertEqual(self.answers_right(PAIR, (0,), (1,)), "row")
        self.assertEqual(self.answers_right(TWINS, (0, 0), (1, 1)), "row")
        self.assertEqual(self.answers_right(TWINS, (0, 1), (1, 0)), "row")
        self.assertEqual(self.answers_right(TWINS, (0, 0), (0, 1)), "weights")
        self.assertEqual(self.answers_right(TRIANGLE, (0, 1, 0), (1, 0, 1)), "row")
        self.assertEqual(self.answers_right(TRIANGLE, (0, 0, 0), (0, 1, 0)), "weights")

    def test_all_signings_against_all_that_both_lead_to(self):
        for plan in SMALL_PLANS:
            for one in helper.some_signings(plan, 32):
                led = helper.led_to_told(plan, one, BOTH)
                for other in helper.signings_of(plan):
                    self.assertEqual(self.answers_right(plan, one, other) == "row", other in led)

    def test_nine_streets(self):
        for plan in BIG_PLANS:
            for one, other in helper.some_pairs(plan, 20):
                self.answers_right(plan, one, other)
        for one, other in helper.some_pairs(NINE_LIKE, 30):
            self.assertEqual(self.answers_right(NINE_LIKE, one, other) == "row",
                             (sum(one) - sum(other)) % 9 == 0)

    def test_nine_streets_with_many_turns_done(self):
        for plan in BIG_PLANS:
            for one in helper.some_signings(plan, 24):
                _, other = helper.walk_row(plan, one, 6, lambda place: 7 * place + 3)
                self.assertEqual(self.answers_right(plan, one, other), "row")

    def test_as_many_kinds_as_trees(self):
        for plan, trees in ((NINE_LIKE, 9), (helper.PRISM, 75), (helper.CROSSES, 81)):
            firsts = []
            for signing in helper.signings_of(plan):
                if all(by_both(plan, first, signing)[0] == "weights" for first in firsts):
                    firsts.append(signing)
            self.assertEqual(len(firsts), trees)

    def test_just_one_of_both_is_so(self):
        for plan in (PAIR, TWINS, TRIPLETS, TRIANGLE):
            every = [("weights", number, weights) for number in range(2, 7)
                     for weights in product(range(number), repeat=plan[0])]
            for one, other in product(helper.signings_of(plan), repeat=2):
                barred = any(shows_told(plan, one, other, thing) for thing in every)
                self.assertEqual(by_both(plan, one, other)[0], "weights" if barred else "row")


class Shows(Both):
    def looks_right(self, plan, one, other, thing):
        self.assertIs(shows_by_both(plan, one, other, thing), shows_told(plan, one, other, thing),
                      repr((plan, one, other, thing))[:300])

    def test_rows_in_whatever_order(self):
        ring, shore, back = ("ring", (0, 1, 2)), ("shore", (0, 1, 2)), ("shore", (3, 4))
        other = (1, 0, 1, 1, 0)
        for row, shown in (((ring, shore), True), ((shore, ring), True),
                           ((ring, shore, ring, ring), True), ((shore, back, ring, shore), True),
                           ((ring, ring, shore), False), ((ring,), False), ((shore,), False),
                           ((), False), ((shore, shore, ring), False), ((back, ring), False),
                           ([ring, shore], False), (ring, False), (None, False)):
            self.assertIs(shows_by_both(FLAG, FLAG_SIGNING, other, ("row", row)), shown, row)
        self.assertIs(shows_by_both(FLAG, FLAG_SIGNING, FLAG_SIGNING, ("row", (ring, ring))), True)
        self.assertIs(shows_by_both(FLAG, FLAG_SIGNING, FLAG_SIGNING, ("row", ())), True)

    def test_weights_by_hand(self):
        one, other = (0, 0), (0, 1)
        for number, weights, shown in ((2, (0, 1), True), (2, (1, 0), True), (2, (1, 1), False),
                                       (2, (0, 0), False), (4, (0, 2), True), (4, (1, 3), True),
                                       (4, (0, 1), False), (4, (2, 2), False), (3, (0, 1), False),
                                       (1, (0, 0), False), (0, (0, 0), False), (-2, (0, 1), False),
                                       (2, (0, 2), False), (2, (0, -1), False), (2, (2, 3), False),
                                       (2, (0, 1, 0), False), (2, (0,), False), (2, (), False),
                                       (2, [0, 1], False), (2, (False, True), False),
                                       (2, (0, True), False), (True, (0, 0), False),
                                       ("2", (0, 1), False), (None, (0, 1), False),
                                       ((2,), (0, 1), False), (2, (0, None), False),
                                       (2, (0, (1,)), False), (2, None, False), (2, 1, False)):
            self.assertIs(shows_by_both(TWINS, one, other, ("weights", number, weights)), shown,
                          (number, weights))
            self.assertIs(shows_by_both(TWINS, (0, 0), (1, 1), ("weights", number, weights)), False)
            self.assertIs(shows_by_both(TWINS, (0, 1), (1, 0), ("weights", number, weights)), False)
        self.assertIs(shows_by_both(TWINS, one, other, ("weights", (2, (0, 1)))), False)
        self.assertIs(shows_by_both(TWINS, one, other, ("weights", 2, (0, 1), ())), False)
        self.assertIs(shows_by_both(TWINS, one, other, ["weights", 2, (0, 1)]), False)
        self.assertIs(shows_by_both(TWINS, one, other, ("row", 2, (0, 1))), False)
        self.assertIs(shows_by_both(TWINS, one, other, ("weights", 2)), False)
        self.assertIs(shows_by_both(ALONE, (), (), ("weights", 2, (1,))), False)

    def test_a_number_of_whatever_size(self):
        for half in (10 ** 12, 4999999999999, 10 ** 40):
            self.assertIs(shows_by_both(TWINS, (0, 0), (0, 1), ("weights", 2 * half, (0, half))), True)
            self.assertIs(shows_by_both(TWINS, (0, 0), (0, 1),
                                        ("weights", 2 * half, (half - 1, 2 * half - 1))), True)
            self.assertIs(shows_by_both(TWINS, (0, 0), (0, 1), ("weights", half + 1, (0, half))), False)
            self.assertIs(shows_by_both(TWINS, (0, 0), (1, 1), ("weights", 2 * half, (0, half))), False)
        self.assertIs(shows_by_both(TRIANGLE, (0, 0, 0), (1, 0, 0),
                                    ("weights", 9 * 10 ** 12, (0, 3 * 10 ** 12, 6 * 10 ** 12))), True)

    def test_each_of_few_weights(self):
        for plan in (ALONE, PAIR, TWINS, TRIPLETS, PATH, TRIANGLE, helper.FAT_TRIANGLE):
            every = [("weights", number, weights) for number in range(6)
                     for weights in product(range(number + 1), repeat=plan[0])]
            for one, other in helper.some_pairs(plan, 5):
                for thing in every:
                    self.looks_right(plan, one, other, thing)

    def test_told_weights_of_others_and_of_other_plans(self):
        for plan in (KITE, helper.ALL_FOUR, BOW, helper.PRISM, helper.CROSSES, NINE_LIKE):
            pairs = helper.some_pairs(plan, 6)
            told = [by_both(plan, one, other) for one, other in pairs]
            for one, other in pairs:
                for thing in told:
                    self.looks_right(plan, one, other, thing)

    def test_each_row_of_at_most_two_turns(self):
        for plan in SMALL_PLANS:
            for one, other in helper.some_pairs(plan, 5):
                for row in helper.rows_of_two_told(plan, one, 12):
                    self.looks_right(plan, one, other, ("row", row[:1]))
                    self.looks_right(plan, one, other, ("row", row))

    def test_long_rows(self):
        for plan in (FLAG, KITE, helper.LOOSE_SIX):
            one = helper.signings_of(plan)[5]
            row, other = helper.walk_row(plan, one, 40, lambda place: 7 * place + 3)
            self.assertIs(shows_by_both(plan, one, other, ("row", row)), True)
            self.assertIs(shows_by_both(plan, one, other, ("row", row[:-1])), False)
            self.assertIs(shows_by_both(plan, one, other, ("row", list(row))), False)
            self.assertIs(shows_by_both(plan, one, other, ("row", row + (None,))), False)

    def test_anything(self):
        for plan, one, other in ((ALONE, (), ()), (PAIR, (0,), (1,)), (PAIR, (0,), (0,)),
                                 (TWINS, (0, 0), (1, 0)), (FLAG, FLAG_SIGNING, (1, 0, 1, 0, 1))):
            for thing in helper.odd_things():
                self.looks_right(plan, one, other, thing)
                self.looks_right(plan, one, other, ("row", thing))
                self.looks_right(plan, one, other, ("weights", 2, thing))
                self.looks_right(plan, one, other, ("weights", thing, (0, 1)))
                self.looks_right(plan, one, other, (thing, ()))
                self.looks_right(plan, one, other, (thing, 2, (0, 1)))

    def test_what_was_told_with_parts_otherwise(self):
        fillings = [None, True, "", "row", "weights", [], {}, 0, 2, (), ("shore", (0,)),
                    ("ring", (0, 1))]
        for plan, one, other in ((TWINS, (0, 1), (1, 0)), (PAIR, (0,), (1,)), (PAIR, (0,), (0,)),
                                 (TWINS, (0, 0), (1, 0)), (TRIANGLE, (0, 0, 0), (1, 0, 0)),
                                 (KITE, (0, 0, 0, 0, 0), (0, 0, 0, 1, 0)),
                                 (FLAG, FLAG_SIGNING, (1, 0, 1, 1, 1)),
                                 (FLAG, FLAG_SIGNING, (0, 1, 1, 1, 0))):
            told = by_both(plan, one, other)
            for thing in helper.likes(told, fillings):
                self.looks_right(plan, one, other, thing)

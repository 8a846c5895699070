"""Point 40: from one signing to another by rings alone, or the towns that bar it."""

from ringshores.rings import by_rings, shows_by_rings
from tests import helper
from tests.helper import (ALONE, BIG_PLANS, BOW, FLAG, FLAG_SIGNING, NINE_LIKE, PAIR, SMALL_PLANS,
                          TRIANGLE, TRIPLETS, TWINS, Case)

RING = ("ring", (0, 1, 2))


def shows_told(plan, one, other, thing):
    """Point 40's words, one by one."""
    if type(thing) is not tuple or len(thing) != 2:
        return False
    word, part = thing
    if word == "row":
        return helper.row_end_told(plan, one, part, ("ring",)) == other
    if word != "town" or type(part) is not int or not 0 <= part < plan[0]:
        return False
    return helper.outs_told(plan, one)[part] != helper.outs_told(plan, other)[part]


class ByRings(Case):
    def answers_right(self, plan, one, other):
        told = by_rings(plan, one, other)
        self.assertTrue(shows_told(plan, one, other, told), (plan, one, other, told))
        self.assertIs(shows_by_rings(plan, one, other, told), True)
        if told[0] == "row":
            streets = [street for _, ring in told[1] for street in ring]
            self.assertEqual(len(streets), len(set(streets)), told)
        else:
            outs = zip(helper.outs_told(plan, one), helper.outs_told(plan, other))
            unlike = [town for town, (first, second) in enumerate(outs) if first != second]
            self.just(told, ("town", min(unlike)))
        return told[0]

    def test_by_hand(self):
        self.just(by_rings(TRIANGLE, (0, 1, 0), (1, 0, 1)), ("row", (RING,)))
        self.just(by_rings(FLAG, FLAG_SIGNING, (1, 0, 1, 0, 0)), ("row", (RING,)))
        self.just(by_rings(TWINS, (0, 1), (1, 0)), ("row", (("ring", (0, 1)),)))
        self.just(by_rings(TRIPLETS, (0, 1, 0), (0, 0, 1)), ("row", (("ring", (1, 2)),)))
        told = by_rings(BOW, (0, 1, 0, 0, 1, 0), (1, 0, 1, 1, 0, 1))
        self.assertEqual(told[0], "row")
        self.assertEqual(sorted(told[1]), [("ring", (0, 1, 2)), ("ring", (3, 4, 5))])

    def test_the_least_town_where_there_is_none(self):
        self.just(by_rings(PAIR, (0,), (1,)), ("town", 0))
        self.just(by_rings(FLAG, FLAG_SIGNING, (0, 1, 0, 1, 0)), ("town", 2))
        self.just(by_rings(FLAG, FLAG_SIGNING, (0, 1, 0, 0, 1)), ("town", 3))
        self.just(by_rings(FLAG, FLAG_SIGNING, (0, 1, 1, 1, 1)), ("town", 1))
        self.just(by_rings(TRIANGLE, (0, 1, 0), (0, 1, 1)), ("town", 1))

    def test_two_equal_signings(self):
        for plan in SMALL_PLANS + BIG_PLANS:
            for signing in helper.some_signings(plan):
                self.just(by_rings(plan, signing, signing), ("row", ()))

    def test_one_town_without_a_street(self):
        self.just(by_rings(ALONE, (), ()), ("row", ()))

    def test_all_signings_against_all_that_rings_lead_to(self):
        for plan in SMALL_PLANS:
            for one in helper.some_signings(plan, 32):
                led = helper.led_to_told(plan, one, ("ring",))
                for other in helper.signings_of(plan):
                    self.assertEqual(self.answers_right(plan, one, other) == "row", other in led)

    def test_nine_streets(self):
        for plan in BIG_PLANS:
            rows = 0
            for one, other in helper.some_pairs(plan, 20):
                rows += self.answers_right(plan, one, other) == "row"
            self.assertGreater(rows, 20)
        for one in helper.some_signings(NINE_LIKE, 8):
            for other in helper.signings_of(NINE_LIKE):
                self.assertEqual(self.answers_right(NINE_LIKE, one, other) == "row",
                                 sum(one) == sum(other))

    def test_nine_streets_with_many_rings_turned(self):
        for plan in BIG_PLANS:
            for one in helper.some_signings(plan, 16):
                other = helper.turned_on_told(plan, one, "ring", 6)
                self.assertEqual(self.answers_right(plan, one, other), "row")


class Shows(Case):
    def looks_right(self, plan, one, other, thing):
        self.assertIs(shows_by_rings(plan, one, other, thing), shows_told(plan, one, other, thing),
                      repr((plan, one, other, thing))[:300])

    def test_rows_with_streets_in_common(self):
        self.assertIs(shows_by_rings(TRIANGLE, (0, 1, 0), (1, 0, 1), ("row", (RING,) * 3)), True)
        self.assertIs(shows_by_rings(TRIANGLE, (0, 1, 0), (1, 0, 1), ("row", (RING,) * 2)), False)
        self.assertIs(shows_by_rings(TRIANGLE, (0, 1, 0), (0, 1, 0), ("row", (RING,) * 2)), True)
        self.assertIs(shows_by_rings(TRIANGLE, (0, 1, 0), (0, 1, 0), ("row", ())), True)
        row = (("ring", (0, 1)), ("ring", (0, 2)))
        self.assertIs(shows_by_rings(TRIPLETS, (0, 1, 1), (0, 1, 1), ("row", row)), False)
        self.assertIs(shows_by_rings(TRIPLETS, (1, 0, 0), (0, 0, 1), ("row", row[1:])), True)
        row = (("ring", (0, 1)), ("ring", (1, 2)))
        self.assertIs(shows_by_rings(TRIPLETS, (1, 0, 0), (0, 0, 1), ("row", row)), True)
        self.assertIs(shows_by_rings(TRIPLETS, (1, 0, 0), (0, 0, 1), ("row", row[::-1])), False)

    def test_no_row_with_a_shore(self):
        shore = ("shore", (0, 1, 2))
        back = ("shore", (3, 4))
        other = (1, 0, 1, 0, 0)
        self.assertIs(shows_by_rings(FLAG, FLAG_SIGNING, other, ("row", (RING,))), True)
        self.assertIs(shows_by_rings(FLAG, FLAG_SIGNING, other, ("row", (RING, shore, back))), False)
        self.assertIs(shows_by_rings(FLAG, FLAG_SIGNING, (0, 1, 0, 1, 0), ("row", (shore,))), False)

    def test_any_town_with_unlike_outs(self):
        for town, shown in enumerate((False, False, True, True, False)):
            self.assertIs(shows_by_rings(FLAG, FLAG_SIGNING, (0, 1, 0, 1, 0), ("town", town)), shown)
        for town in (-1, -2, -3, 5, 9999999999999, True, False, "2", (2,), [2], None, {}):
            self.assertIs(shows_by_rings(FLAG, FLAG_SIGNING, (0, 1, 0, 1, 0), ("town", town)), False)
        self.assertIs(shows_by_rings(PAIR, (0,), (1,), ("town", 0)), True)
        self.assertIs(shows_by_rings(PAIR, (0,), (1,), ("town", False)), False)

    def test_no_town_where_a_row_leads_there(self):
        for plan in SMALL_PLANS:
            for one in helper.some_signings(plan, 8):
                for other in helper.led_to_told(plan, one, ("ring",)):
                    for town in range(plan[0]):
                        self.assertIs(shows_by_rings(plan, one, other, ("town", town)), False)

    def test_each_row_of_at_most_two_turns_and_each_town(self):
        for plan in SMALL_PLANS:
            for one, other in helper.some_pairs(plan, 6):
                turns = [("ring", lot) for lot in helper.lots(len(plan[1]))][:40]
                for thing in [()] + [(turn,) for turn in turns + helper.turns_told(plan, one)]:
                    self.looks_right(plan, one, other, ("row", thing))
                for row in helper.rows_of_two_told(plan, one, 20):
                    self.looks_right(plan, one, other, ("row", row))
                for town in range(-1, plan[0] + 1):
                    self.looks_right(plan, one, other, ("town", town))

    def test_long_rows(self):
        for length in (40, 41, 200):
            row = (RING, ) * length
            other = (0, 1, 0) if length % 2 == 0 else (1, 0, 1)
            self.assertIs(shows_by_rings(TRIANGLE, (0, 1, 0), other, ("row", row)), True)
            self.assertIs(shows_by_rings(TRIANGLE, (0, 1, 0), other, ("row", row + row[:1])), False)
            self.assertIs(shows_by_rings(TRIANGLE, (0, 1, 0), other, ("row", list(row))), False)

    def test_anything(self):
        for plan, one, other in ((ALONE, (), ()), (PAIR, (0,), (1,)), (PAIR, (0,), (0,)),
                                 (TWINS, (0, 1), (1, 0)), (FLAG, FLAG_SIGNING, (1, 0, 1, 0, 1))):
            for thing in helper.odd_things():
                self.looks_right(plan, one, other, thing)
                self.looks_right(plan, one, other, ("row", thing))
                self.looks_right(plan, one, other, ("town", thing))
                self.looks_right(plan, one, other, (thing, ()))
                self.looks_right(plan, one, other, (thing, 0))

    def test_what_was_told_with_parts_otherwise(self):
        fillings = [None, True, "", "row", "town", [], {}, 0, 2, (), RING, ("ring", (0, 1))]
        for plan, one, other in ((TWINS, (0, 1), (1, 0)), (PAIR, (0,), (1,)), (PAIR, (0,), (0,)),
                                 (BOW, (0, 1, 0, 0, 1, 0), (1, 0, 1, 1, 0, 1)),
                                 (FLAG, FLAG_SIGNING, (1, 0, 1, 0, 0)),
                                 (FLAG, FLAG_SIGNING, (1, 0, 1, 1, 0))):
            told = by_rings(plan, one, other)
            for thing in helper.likes(told, fillings):
                self.looks_right(plan, one, other, thing)

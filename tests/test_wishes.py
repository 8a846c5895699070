"""Point 90: wishes, a signing that has all, or a lot of towns that bars them."""

from itertools import product

from ringshores.errors import NoPlan, NoWishes
from ringshores.wishes import grant, shows_grant
from tests import helper
from tests.helper import (ALONE, BIG_PLANS, FLAG, KITE, NINE_LIKE, PAIR, PATH, PRISM, SMALL_PLANS,
                          TRIANGLE, TRIPLETS, TWINS, Case)

NONE_AT_ALL = ((None,) * 9, (None,) * 6)
WORDS = ("signing", "few", "many")


def has_told(plan, wishes, signing):
    """Whether a signing has all wishes, one by one."""
    signs, numbers = wishes
    outs = helper.outs_told(plan, signing)
    return (all(signs[street] in (None, signing[street]) for street in range(len(signing)))
            and all(numbers[town] in (None, outs[town]) for town in range(plan[0])))


def bars_told(plan, wishes, word, lot):
    """Point 90's words for a lot that wants too few or too many."""
    signs, numbers = wishes
    want = sum(numbers[town] for town in lot)
    within = at = out = from_outside = 0
    for street, (one, other) in enumerate(plan[1]):
        ends = (one in lot) + (other in lot)
        within += ends == 2
        at += ends > 0
        if ends == 1 and signs[street] is not None:
            start = other if signs[street] == 1 else one
            out += start in lot
            from_outside += start not in lot
    return want < within + out if word == "few" else want > at - from_outside


def lots_wanting(plan, wishes):
    numbered = [town for town in range(plan[0]) if wishes[1][town] is not None]
    return [lot for lot in helper.lots(plan[0]) if lot and all(town in numbered for town in lot)]


def shows_told(plan, wishes, thing):
    if type(thing) is not tuple or len(thing) != 2 or thing[0] not in WORDS:
        return False
    word, part = thing
    if word == "signing":
        return (repr(part) in [repr(signing) for signing in helper.signings_of(plan)]
                and has_told(plan, wishes, part))
    return (repr(part) in [repr(lot) for lot in lots_wanting(plan, wishes)]
            and bars_told(plan, wishes, word, part))


def some_wishes(plan, most, choose):
    """Wishes with all kinds of parts: None, signs, numbers small and great."""
    found = []
    for place in range(most):
        signs = [(None, 0, 1, None)[choose(place, street) % 4] for street in range(len(plan[1]))]
        numbers = [(None, 0, 1, 2, 3, 1, 2, 9, 1)[choose(place, town + 9) % 9] for town in range(plan[0])]
        found.append((tuple(signs), tuple(numbers)))
    return found


def nearly(plan, signing, place):
    """Wishes that a signing has but for one part."""
    signs = [sign if (place + street) % 3 == 0 else None for street, sign in enumerate(signing)]
    numbers = list(helper.outs_told(plan, signing))
    numbers[place % plan[0]] = [None, numbers[place % plan[0]] + 1, 0, 2][place % 4]
    return tuple(signs), tuple(numbers)


def mix(place, at):
    return (place * 7919 + at * 104729 + place * place * at * 31 + (place + 3) * (at + 1) ** 3) // 5


class Granting(Case):
    def answers_right(self, plan, wishes):
        """The word told, when all that is told is as the words say."""
        told = grant(plan, wishes)
        self.assertEqual((type(told), len(told)), (tuple, 2))
        self.assertIs(shows_told(plan, wishes, told), True, (plan, wishes, told))
        self.assertIs(shows_grant(plan, wishes, told), True, (plan, wishes, told))
        can = any(has_told(plan, wishes, signing) for signing in helper.signings_of(plan))
        lots = sorted(lots_wanting(plan, wishes))
        few = [lot for lot in lots if bars_told(plan, wishes, "few", lot)]
        many = [lot for lot in lots if bars_told(plan, wishes, "many", lot)]
        self.assertEqual(can, not few and not many, "just one is so")
        if can:
            self.assertEqual(told[0], "signing")
        else:
            self.just(told, ("few", few[0]) if few else ("many", many[0]))
        return told[0]


class Grant(Granting):
    def test_by_hand(self):
        self.just(grant(ALONE, ((), (None,))), ("signing", ()))
        self.just(grant(ALONE, ((), (0,))), ("signing", ()))
        self.just(grant(ALONE, ((), (1,))), ("many", (0,)))
        self.just(grant(ALONE, ((), (9,))), ("many", (0,)))
        self.just(grant(PAIR, ((None,), (0, None))), ("signing", (1,)))
        self.just(grant(PAIR, ((0,), (0, None))), ("few", (0,)))
        self.just(grant(PAIR, ((0,), (None, 1))), ("many", (1,)))
        self.just(grant(PAIR, ((None,), (0, 0))), ("few", (0, 1)))
        self.just(grant(PAIR, ((None,), (1, 1))), ("many", (0, 1)))
        self.just(grant(PAIR, ((0,), (0, 1))), ("few", (0,)))
        self.just(grant(PAIR, ((1,), (1, 0))), ("few", (1,)))
        self.just(grant(PAIR, ((1,), (1, None))), ("many", (0,)))
        self.just(grant(TRIANGLE, ((None,) * 3, (1, 1, 1)))[0], "signing")
        self.just(grant(TRIANGLE, ((0, None, None), (1, 1, 1))), ("signing", (0, 1, 0)))
        self.just(grant(TRIANGLE, ((0, 0, None), (1, 1, 1))), ("few", (0,)))

    def test_the_least_lot_as_python_compares_them(self):
        # (0, 1) is less than (1,), though longer.
        self.just(grant(TRIPLETS, ((1, 1, 1), (0, 2))), ("few", (0, 1)))
        self.just(grant(TRIPLETS, ((1, 1, 1), (None, 2))), ("few", (1,)))
        self.just(grant(PATH, ((None, None), (0, 0, 0))), ("few", (0, 1)))
        self.just(grant(PATH, ((None, None), (None, 0, 0))), ("few", (1, 2)))
        self.just(grant(PATH, ((None, None), (2, 3, 2))), ("many", (0,)))
        self.just(grant(PATH, ((None, None), (1, 2, 0))), ("many", (0, 1)))

    def test_too_few_are_told_ahead_of_too_many(self):
        self.just(grant(PATH, ((None, None), (2, 0, 0))), ("few", (1, 2)))
        self.just(grant(TRIANGLE, ((None,) * 3, (9, 0, 0))), ("few", (1, 2)))
        self.just(grant(KITE, ((None,) * 5, (9, 9, 9, 0))), ("many", (0,)))

    def test_nothing_wished(self):
        for plan in SMALL_PLANS + BIG_PLANS:
            wishes = ((None,) * len(plan[1]), (None,) * plan[0])
            self.assertEqual(self.answers_right(plan, wishes), "signing")
            for word in ("few", "many"):
                for lot in helper.lots(plan[0]):
                    self.assertIs(shows_grant(plan, wishes, (word, lot)), False)

    def test_streets_alone_are_always_had(self):
        for plan in (TRIANGLE, TRIPLETS, PATH):
            for signs in product((0, 1, None), repeat=len(plan[1])):
                self.assertEqual(self.answers_right(plan, (signs, (None,) * plan[0])), "signing")

    def test_all_wishes_of_the_least_plans(self):
        for plan, numbers in ((ALONE, range(10)), (PAIR, range(10)), (TWINS, range(5)),
                              (PATH, range(4)), (TRIANGLE, range(4))):
            for signs in product((0, 1, None), repeat=len(plan[1])):
                for wanted in product((None,) + tuple(numbers), repeat=plan[0]):
                    self.answers_right(plan, (signs, wanted))

    def test_wishes_of_all_plans(self):
        words = []
        for plan in SMALL_PLANS:
            for wishes in some_wishes(plan, 60, mix):
                words.append(self.answers_right(plan, wishes))
        self.assertEqual(set(words), set(WORDS))

    def test_nine_streets(self):
        words = []
        for plan in BIG_PLANS:
            for place, signing in enumerate(helper.some_signings(plan, 12)):
                words.append(self.answers_right(plan, nearly(plan, signing, place)))
            for wishes in some_wishes(plan, 8, mix):
                words.append(self.answers_right(plan, wishes))
        self.assertEqual(set(words), set(WORDS))

    def test_what_each_signing_has(self):
        for plan in SMALL_PLANS + BIG_PLANS:
            for signing in helper.some_signings(plan, 10):
                outs = helper.outs_told(plan, signing)
                self.just(grant(plan, (signing, outs)), ("signing", signing))
                self.just(grant(plan, ((None,) * len(signing), outs))[0], "signing")

    def test_what_is_no_wishes(self):
        for wishes in (None, (), (None, None), ((), ()), ((None,), (None,)), ((None,), (None,) * 3),
                       ((), (None, None)), ((None, None), (None, None)), [(None,), (None, None)],
                       ([None], (None, None)), ((None,), [None, None]), ((2,), (0, 1)), ((-1,), (0, 1)),
                       ((True,), (0, 1)), ((False,), (None, None)), (("0",), (0, 1)), (((),), (0, 1)),
                       ((0,), (0, 10)), ((0,), (-1, 1)), ((0,), (True, 0)), ((0,), (1, False)),
                       ((0,), ("1", 0)), ((0,), (1, (0,))), ((0,), (1, [])), ((0,), (1, {})),
                       ((0,), (1, 0), ()), ((0,),), {0: (0,), 1: (1, 0)}, ((0,), 10 ** 12), "00", 7,
                       ((0,), (9999999999999, None))):
            self.refused(NoWishes, grant, PAIR, wishes)
            self.refused(NoWishes, shows_grant, PAIR, wishes, ("signing", (0,)))
            self.refused(NoPlan, grant, (1, ((0, 0),)), wishes)
            self.refused(NoPlan, shows_grant, (1, ((0, 0),)), wishes, ("signing", (0,)))

    def test_the_greatest_number_is_9(self):
        self.just(grant(NINE_LIKE, ((None,) * 9, (9, 0))), ("signing", (0,) * 9))
        self.just(grant(NINE_LIKE, ((None,) * 9, (9, 9))), ("many", (0, 1)))
        self.refused(NoWishes, grant, NINE_LIKE, ((None,) * 9, (10, None)))


class Shows(Granting):
    def looks_right(self, plan, wishes, thing):
        self.assertIs(shows_grant(plan, wishes, thing), shows_told(plan, wishes, thing),
                      repr((plan, wishes, thing))[:300])

    def test_each_signing_and_each_lot(self):
        for plan in SMALL_PLANS:
            things = [("signing", signing) for signing in helper.signings_of(plan)]
            things += [(word, lot) for word in ("few", "many", "signing") for lot in helper.lots(plan[0])]
            for wishes in some_wishes(plan, 9, mix):
                for thing in things:
                    self.looks_right(plan, wishes, thing)

    def test_each_lot_of_nine_streets(self):
        for plan in BIG_PLANS:
            for wishes in some_wishes(plan, 6, mix):
                for word in ("few", "many"):
                    for lot in helper.lots(plan[0]):
                        self.looks_right(plan, wishes, (word, lot))

    def test_of_too_many_where_another_one_wants_too_few(self):
        wishes = ((None,) * 3, (9, 0, 0))
        self.assertIs(shows_grant(TRIANGLE, wishes, ("few", (1, 2))), True)
        self.assertIs(shows_grant(TRIANGLE, wishes, ("many", (0,))), True)
        self.assertIs(shows_grant(TRIANGLE, wishes, ("many", (0, 1))), True)
        self.assertIs(shows_grant(TRIANGLE, wishes, ("many", (1, 2))), False)
        self.assertIs(shows_grant(TRIANGLE, wishes, ("few", (0,))), False)

    def test_not_of_towns_without_numbers_nor_of_none(self):
        wishes = ((0, 0), (None, 0, 1))
        self.just(grant(PATH, wishes), ("few", (1,)))
        for word in ("few", "many"):
            self.assertIs(shows_grant(PATH, wishes, (word, (0,))), False)
            self.assertIs(shows_grant(PATH, wishes, (word, (0, 1))), False)
            self.assertIs(shows_grant(PATH, wishes, (word, ())), False)
            self.assertIs(shows_grant(PATH, wishes, (word, (3,))), False)
            self.assertIs(shows_grant(PATH, wishes, (word, (1, 1))), False)
            self.assertIs(shows_grant(PATH, wishes, (word, (2, 1))), False)
        self.assertIs(shows_grant(PATH, wishes, ("many", (2,))), True)
        self.assertIs(shows_grant(PATH, wishes, ("few", (1,))), True)
        self.assertIs(shows_grant(PATH, wishes, ("few", (True,))), False)
        self.assertIs(shows_grant(PATH, wishes, ("few", [1])), False)
        self.assertIs(shows_grant(PATH, wishes, ["few", (1,)]), False)
        self.assertIs(shows_grant(PATH, wishes, ("few", (1,), ())), False)
        self.assertIs(shows_grant(PATH, wishes, ("none", (1,))), False)

    def test_anything(self):
        for plan, wishes in ((ALONE, ((), (1,))), (ALONE, ((), (0,))), (PAIR, ((None,), (0, 0))),
                             (PAIR, ((None,), (1, 1))), (PAIR, ((0,), (None, None))),
                             (TWINS, ((0, None), (0, 9)))):
            for thing in helper.odd_things():
                self.looks_right(plan, wishes, thing)
                self.looks_right(plan, wishes, (thing, (0,)))
                for word in WORDS:
                    self.looks_right(plan, wishes, (word, thing))

    def test_what_was_told_with_parts_otherwise(self):
        fillings = [None, True, False, "", "signing", "few", "many", [], {}, 0, 1, 2, (), (0,), (0, 1)]
        for plan in (PAIR, TWINS, PATH, TRIANGLE, KITE, FLAG, PRISM):
            for wishes in some_wishes(plan, 8, mix):
                for thing in helper.likes(grant(plan, wishes), fillings):
                    self.looks_right(plan, wishes, thing)

"""Points 10 and 11: plans, signings, outs, and towns that are come to."""

from itertools import combinations_with_replacement

from ringshores.errors import NoPlan, NoSigning, NoTown
from ringshores.plans import come_to, is_plan, is_signing, outs
from tests import helper
from tests.helper import BIG_PLANS, KITE, PATH, SMALL_PLANS, TRIANGLE, TWINS, Case


def few_plans():
    """All plans of at most four towns and four streets, by the words of point 10."""
    for many in range(1, 5):
        streets = [(one, other) for one in range(many) for other in range(one + 1, many)]
        for size in range(5):
            for some in combinations_with_replacement(streets, size):
                if len(set(helper.pieces(many, some))) == 1:
                    yield (many, some)


class Plans(Case):
    def no_plan(self, thing):
        self.assertIs(is_plan(thing), False, repr(thing)[:200])
        self.refused(NoPlan, is_signing, thing, ())
        self.refused(NoPlan, outs, thing, ())
        self.refused(NoPlan, come_to, thing, (), 0)

    def test_plans_of_one_town_to_six_and_of_no_street_to_nine(self):
        for plan in SMALL_PLANS + BIG_PLANS:
            self.assertIs(is_plan(plan), True, plan)
        for many in range(1, 7):
            path = tuple((town, town + 1) for town in range(many - 1))
            self.assertIs(is_plan((many, path)), True)

    def test_all_plans_of_few_towns_and_streets(self):
        for plan in few_plans():
            self.assertIs(is_plan(plan), True, plan)

    def test_like_streets_are_let(self):
        self.assertIs(is_plan((2, ((0, 1),) * 9)), True)
        self.assertIs(is_plan((3, ((0, 2), (0, 2), (1, 2), (1, 2)))), True)

    def test_no_town_and_too_many_towns(self):
        self.no_plan((0, ()))
        self.no_plan((-1, ()))
        self.no_plan((7, tuple((town, town + 1) for town in range(6))))
        self.no_plan((7, ((0, 1), (0, 2), (0, 3), (0, 4), (0, 5), (0, 6))))
        self.no_plan((9999999999999, ((0, 1),)))

    def test_too_many_streets(self):
        self.no_plan((2, ((0, 1),) * 10))
        self.no_plan((2, ((0, 1),) * 1400))
        self.no_plan((6, tuple((one, other) for one in range(5) for other in range(one + 1, 6))[:10]))

    def test_a_street_whose_towns_stand_the_other_way_about_or_are_one(self):
        self.no_plan((2, ((1, 0),)))
        self.no_plan((2, ((0, 1), (1, 0))))
        self.no_plan((1, ((0, 0),)))
        self.no_plan((2, ((0, 0), (0, 1))))
        self.no_plan((2, ((0, 1), (1, 1))))

    def test_a_street_to_no_town(self):
        self.no_plan((2, ((0, 2),)))
        self.no_plan((2, ((0, 1), (0, 2))))
        self.no_plan((2, ((-1, 0), (0, 1))))
        self.no_plan((1, ((0, 1),)))
        self.no_plan((3, ((0, 1), (0, 2), (1, 3))))

    def test_streets_out_of_order(self):
        self.no_plan((3, ((0, 2), (0, 1))))
        self.no_plan((3, ((1, 2), (0, 1))))
        self.no_plan((3, ((0, 1), (1, 2), (0, 2))))
        self.no_plan((3, ((0, 1), (1, 2), (0, 1))))

    def test_towns_that_do_not_hang_together(self):
        self.no_plan((2, ()))
        self.no_plan((3, ((0, 1),)))
        self.no_plan((3, ((1, 2),)))
        self.no_plan((4, ((0, 1), (2, 3))))
        self.no_plan((6, ((0, 1), (0, 2), (1, 2), (3, 4), (3, 5), (4, 5))))
        self.no_plan((6, ((0, 1), (1, 2), (2, 3), (3, 4))))

    def test_towns_hang_together_whichever_way_the_streets_stand(self):
        self.assertIs(is_plan((4, ((0, 3), (1, 2), (1, 3)))), True)
        self.assertIs(is_plan((6, ((0, 5), (1, 2), (1, 5), (2, 4), (3, 4)))), True)

    def test_lists_for_tuples(self):
        self.no_plan([1, ()])
        self.no_plan((1, []))
        self.no_plan((2, [(0, 1)]))
        self.no_plan((2, ([0, 1],)))
        self.no_plan((3, ((0, 1), [1, 2])))

    def test_truths_for_numbers(self):
        self.no_plan((True, ()))
        self.no_plan((2, ((False, 1),)))
        self.no_plan((2, ((0, True),)))
        self.no_plan((2, ((0, 1), (0, True))))

    def test_other_kinds(self):
        for thing in (None, True, 1, "", "1", {}, {0: 1, 1: ()}, "ab", ("1", ()), (1, None),
                      (1, {}), (1, ""), (2, ((0, "1"),)), (2, ((0, None),)), (2, (None,)),
                      (2, ("01",)), (2, ((0, (1,)),)), (2, ({0: 0, 1: 1},)), (2, ((0, 1, 0),)),
                      (2, ((0,),)), (2, ((),)), (2,), (), (2, ((0, 1),), ()), (None, ()),
                      ([], ((0, 1),)), ({}, ()), ((2,), ((0, 1),)), ("2", ((0, 1),))):
            self.no_plan(thing)

    def test_anything(self):
        for thing in helper.odd_things():
            if repr(thing) not in ("(1, ())", "(2, ((0, 1),))"):
                self.no_plan(thing)

    def test_plans_with_parts_otherwise(self):
        plans = {repr(plan) for plan in few_plans()}
        fillings = [None, True, "", "ring", [], {}, 0, (), (0, 1), (1, 0), (1, 2)]
        for plan in (helper.ALONE, helper.PAIR, TWINS, TRIANGLE):
            for thing in helper.likes(plan, fillings):
                self.assertIs(is_plan(thing), repr(thing) in plans, thing)


class Signings(Case):
    def no_signing(self, plan, thing):
        self.assertIs(is_signing(plan, thing), False, repr(thing)[:200])
        self.refused(NoSigning, outs, plan, thing)
        self.refused(NoSigning, come_to, plan, thing, 0)

    def test_all_signings(self):
        for plan in SMALL_PLANS + BIG_PLANS:
            for signing in helper.signings_of(plan):
                self.assertIs(is_signing(plan, signing), True)

    def test_of_another_length(self):
        self.no_signing(TRIANGLE, ())
        self.no_signing(TRIANGLE, (0, 1))
        self.no_signing(TRIANGLE, (0, 1, 0, 1))
        self.no_signing(helper.ALONE, (0,))
        self.no_signing(TRIANGLE, (0,) * 2999)

    def test_with_other_numbers(self):
        self.no_signing(TRIANGLE, (0, 1, 2))
        self.no_signing(TRIANGLE, (0, -1, 0))
        self.no_signing(TRIANGLE, (9999999999999, 0, 0))

    def test_with_truths(self):
        self.no_signing(TRIANGLE, (0, True, 0))
        self.no_signing(TRIANGLE, (False, 1, 0))

    def test_of_other_kinds(self):
        for thing in ([0, 1, 0], {0: 0, 1: 1, 2: 0}, "010", None, 0, True, (0, 1, None),
                      (0, 1, "0"), (0, 1, (0,)), (0, [1], 0), ((0, 1, 0),), (0, {}, 0)):
            self.no_signing(TRIANGLE, thing)
        self.no_signing(helper.ALONE, [])
        self.no_signing(helper.ALONE, {})
        self.no_signing(helper.ALONE, "")
        self.no_signing(helper.ALONE, None)

    def test_anything_and_signings_with_parts_otherwise(self):
        fillings = [None, True, "", [], {}, 0, 1, 2, ()]
        for plan in (helper.ALONE, helper.PAIR, TWINS, TRIANGLE):
            signings = {repr(signing) for signing in helper.signings_of(plan)}
            for thing in helper.odd_things() + [
                    like for signing in helper.signings_of(plan)
                    for like in helper.likes(signing, fillings)]:
                if repr(thing) in signings:
                    self.assertIs(is_signing(plan, thing), True, thing)
                else:
                    self.no_signing(plan, thing)


class Outs(Case):
    def test_some_by_hand(self):
        self.just(outs(helper.ALONE, ()), (0,))
        self.just(outs(helper.PAIR, (0,)), (1, 0))
        self.just(outs(helper.PAIR, (1,)), (0, 1))
        self.just(outs(TRIANGLE, (0, 1, 0)), (1, 1, 1))
        self.just(outs(KITE, (0, 0, 1, 0, 1)), (2, 1, 1, 1))
        self.just(outs(helper.NINE_LIKE, (1,) * 9), (0, 9))

    def test_all_against_the_words(self):
        for plan in SMALL_PLANS + BIG_PLANS:
            for signing in helper.signings_of(plan):
                self.just(outs(plan, signing), helper.outs_told(plan, signing))


class ComeTo(Case):
    def test_some_by_hand(self):
        self.just(come_to(helper.ALONE, (), 0), (0,))
        self.just(come_to(PATH, (0, 0), 0), (0, 1, 2))
        self.just(come_to(PATH, (0, 0), 1), (1, 2))
        self.just(come_to(PATH, (0, 0), 2), (2,))
        self.just(come_to(PATH, (1, 0), 1), (0, 1, 2))
        self.just(come_to(PATH, (1, 1), 2), (0, 1, 2))
        self.just(come_to(TWINS, (0, 1), 1), (0, 1))

    def test_all_against_the_words(self):
        for plan in SMALL_PLANS + BIG_PLANS:
            for signing in helper.signings_of(plan):
                for town in range(plan[0]):
                    self.just(come_to(plan, signing, town),
                              helper.come_to_told(plan, signing, town))

    def test_what_is_no_town(self):
        for plan in (helper.ALONE, TRIANGLE, helper.PRISM):
            towns = {repr(town) for town in range(plan[0])}
            signing = (0,) * len(plan[1])
            for thing in helper.odd_things() + [plan[0]]:
                if repr(thing) not in towns:
                    self.refused(NoTown, come_to, plan, signing, thing)

"""Point 110: all streets turned about, and towns called otherwise."""

from itertools import permutations

from ringshores.called import called, turned_about
from ringshores.errors import NoOrder, NoPlan, NoSigning
from ringshores.plans import is_plan, is_signing, outs
from ringshores.turns import rings_of, shores_of
from tests import helper
from tests.helper import (ALONE, BIG_PLANS, FLAG, FLAG_SIGNING, PAIR, PATH, SMALL_PLANS, TRIANGLE,
                          TRIPLETS, TWINS, Case)


def ends_of(plan, signing):
    return [helper.start_and_end(plan, signing, street) for street in range(len(signing))]


def some_orders(many):
    """All orders of few towns, of six towns some."""
    orders = list(permutations(range(many)))
    return orders if len(orders) < 25 else orders[::len(orders) // 12] + orders[-1:]


def new_places(plan, order):
    """For each street its place behind: by its new towns, of like towns by its old place."""
    keys = [(sorted(order[town] for town in street), place) for place, street in enumerate(plan[1])]
    return [sorted(keys).index(key) for key in keys]


class TurnedAbout(Case):
    def test_by_hand(self):
        self.just(turned_about(ALONE, ()), ())
        self.just(turned_about(PAIR, (0,)), (1,))
        self.just(turned_about(FLAG, FLAG_SIGNING), (1, 0, 1, 1, 1))

    def test_each_street_leads_the_other_way(self):
        for plan in SMALL_PLANS + BIG_PLANS:
            for signing in helper.some_signings(plan, 32):
                told = turned_about(plan, signing)
                self.assertIs(is_signing(plan, told), True)
                self.assertEqual(ends_of(plan, told),
                                 [(end, start) for start, end in ends_of(plan, signing)])
                self.just(turned_about(plan, told), signing)

    def test_rings_stay_and_shores_are_the_rest(self):
        for plan in SMALL_PLANS + BIG_PLANS:
            for signing in helper.some_signings(plan, 8):
                told = turned_about(plan, signing)
                self.just(rings_of(plan, told), rings_of(plan, signing))
                rest = [tuple(sorted(set(range(plan[0])) - set(shore)))
                        for shore in shores_of(plan, signing)]
                self.just(shores_of(plan, told), tuple(sorted(rest)))

    def test_refusals(self):
        self.refused(NoPlan, turned_about, (2, ()), ())
        for thing in ((), (0, 0), (2,), (True,), [0], None, 0, "0", {0: 0}):
            self.refused(NoSigning, turned_about, PAIR, thing)


class Called(Case):
    def test_by_hand(self):
        self.just(called(ALONE, (), (0,)), (ALONE, ()))
        self.just(called(PAIR, (0,), (0, 1)), (PAIR, (0,)))
        self.just(called(PAIR, (0,), (1, 0)), (PAIR, (1,)))
        self.just(called(PATH, (0, 0), (2, 1, 0)), (PATH, (1, 1)))
        self.just(called(PATH, (0, 1), (1, 0, 2)), ((3, ((0, 1), (0, 2))), (1, 1)))
        self.just(called(PATH, (0, 1), (1, 2, 0)), ((3, ((0, 2), (1, 2))), (0, 0)))
        self.just(called(FLAG, FLAG_SIGNING, (4, 3, 2, 1, 0)),
                  ((5, ((0, 1), (1, 2), (2, 3), (2, 4), (3, 4))), (1, 1, 1, 0, 1)))

    def test_streets_of_like_towns_stay_in_their_order(self):
        self.just(called(TRIPLETS, (0, 1, 1), (0, 1)), (TRIPLETS, (0, 1, 1)))
        self.just(called(TRIPLETS, (0, 1, 1), (1, 0)), (TRIPLETS, (1, 0, 0)))
        self.just(called(TRIPLETS, (1, 0, 1), (1, 0)), (TRIPLETS, (0, 1, 0)))
        self.just(called(helper.FAT_TRIANGLE, (0, 0, 1, 0), (2, 0, 1)),
                  ((3, ((0, 1), (0, 1), (0, 2), (1, 2))), (1, 0, 1, 1)))

    def test_each_street_is_where_and_as_it_was_by_new_numbers(self):
        for plan in SMALL_PLANS + BIG_PLANS:
            for signing in helper.some_signings(plan, 6):
                for order in some_orders(plan[0]):
                    told = called(plan, signing, order)
                    self.assertEqual((type(told), len(told)), (tuple, 2))
                    new_plan, new_signing = told
                    self.assertIs(is_plan(new_plan), True)
                    self.assertIs(is_signing(new_plan, new_signing), True)
                    places = new_places(plan, order)
                    ends = ends_of(new_plan, new_signing)
                    for street, (start, end) in enumerate(ends_of(plan, signing)):
                        self.assertEqual(ends[places[street]], (order[start], order[end]))

    def test_rings_stay_rings_and_shores_their_towns(self):
        for plan in (TWINS, TRIANGLE, FLAG, helper.KITE, helper.BOW, helper.LOOSE_SIX, helper.PRISM):
            for signing in helper.some_signings(plan, 4):
                for order in some_orders(plan[0])[::3]:
                    told = called(plan, signing, order)
                    places = new_places(plan, order)
                    rings = [tuple(sorted(places[street] for street in ring))
                             for ring in rings_of(plan, signing)]
                    shores = [tuple(sorted(order[town] for town in shore))
                              for shore in shores_of(plan, signing)]
                    self.just(rings_of(*told), tuple(sorted(rings)))
                    self.just(shores_of(*told), tuple(sorted(shores)))
                    by_town = outs(plan, signing)
                    self.assertEqual([outs(*told)[order[town]] for town in range(plan[0])], list(by_town))

    def test_called_back_it_is_as_it_was(self):
        for plan in SMALL_PLANS + BIG_PLANS:
            for signing in helper.some_signings(plan, 4):
                for order in some_orders(plan[0]):
                    back = tuple(order.index(town) for town in range(plan[0]))
                    self.just(called(*called(plan, signing, order), back), (plan, signing))

    def test_what_is_no_order(self):
        for order in ((), (0,), (0, 1), (0, 1, 2, 3), (0, 0, 1), (1, 1, 1), (1, 2, 3), (-1, 0, 1),
                      (0, 1, 3), (0, True, 2), (False, 1, 2), [0, 1, 2], None, 0, "012", {0: 0, 1: 1, 2: 2},
                      ("0", "1", "2"), (None, 1, 2), ((0,), 1, 2), ([], {}, 0), (0, 1, 10 ** 12)):
            self.refused(NoOrder, called, PATH, (0, 0), order)
            self.refused(NoSigning, called, PATH, (0, 2), order)
            self.refused(NoPlan, called, (3, ((1, 2),)), (0, 2), order)

    def test_anything(self):
        for thing in helper.odd_things():
            self.refused(NoOrder, called, TRIANGLE, (0, 0, 0), thing)
            if repr(thing) not in ("(0, 1)", "(1, 0)"):
                self.refused(NoOrder, called, PAIR, (0,), thing)

"""Points 70 and 71: shores that make all towns come to from a root, names, and least times."""

from fractions import Fraction
from itertools import product

from ringshores.errors import NoNumbers, NoPlan, NoSigning, NoTown
from ringshores.names import least_times, name_by, name_of, rooted
from tests import helper
from tests.helper import (ALONE, BIG_PLANS, BOW, FLAG, FLAG_SIGNING, KITE, NINE_LIKE, PAIR, PATH,
                          PRISM, SMALL_PLANS, TRIANGLE, TRIPLETS, TWINS, Case)

BOTH = ("ring", "shore")
TREES = {NINE_LIKE: 9, PRISM: 75, helper.CROSSES: 81, helper.LOOSE_SIX: 25, TRIPLETS: 3, KITE: 5,
         helper.ALL_FOUR: 16, BOW: 9, FLAG: 3, PATH: 1, helper.STAR: 1, PAIR: 1, ALONE: 1}


def swept_at_once(plan, numbers, times):
    """The numbers behind so many sweeps of each town, however many."""
    now = list(numbers)
    for one, other in plan[1]:
        now[one] += times[other] - times[one]
        now[other] += times[one] - times[other]
    return tuple(now)


def sweeps_bring(plan, changes):
    """Whether changes are what some sweeps bring: looked up by fractions, with no sweep of town 0."""
    many = plan[0]
    bring = [swept_at_once(plan, (0,) * many, [int(town == place) for place in range(many)])
             for town in range(many)]
    rows = [[Fraction(bring[town][place]) for town in range(1, many)] + [Fraction(changes[place])]
            for place in range(1, many)]
    for at in range(many - 1):
        pivot = next(place for place in range(at, many - 1) if rows[place][at] != 0)
        rows[at], rows[pivot] = rows[pivot], rows[at]
        rows[at] = [part / rows[at][at] for part in rows[at]]
        for place in range(many - 1):
            if place != at:
                rows[place] = [part - rows[place][at] * against
                               for part, against in zip(rows[place], rows[at])]
    return sum(changes) == 0 and all(row[-1].denominator == 1 for row in rows)


def all_from(plan, signing, root):
    return helper.come_to_told(plan, signing, root) == tuple(range(plan[0]))


def numbers_of(plan, most):
    """Numbers of a plan that are far from each other, below 0 too."""
    many = plan[0]
    found = []
    for place in range(most):
        head = [(place * (7 + 3 * town)) ** 2 % 23 - 11 for town in range(many - 1)]
        found.append(tuple(head) + (len(plan[1]) - sum(head),))
    return found


class Rooted(Case):
    def is_right(self, plan, signing, root):
        told = rooted(plan, signing, root)
        self.assertEqual((type(told), len(told)), (tuple, 2))
        row, last = told
        self.just(helper.row_end_told(plan, signing, row, ("shore",)), last)
        self.assertTrue(all_from(plan, last, root), (plan, signing, root))
        return last

    def test_by_hand(self):
        self.just(rooted(ALONE, (), 0), ((), ()))
        self.just(rooted(PAIR, (0,), 0), ((), (0,)))
        self.just(rooted(PAIR, (0,), 1), ((("shore", (0,)),), (1,)))
        self.just(rooted(PATH, (0, 0), 2)[1], (1, 1))
        self.just(rooted(PATH, (0, 1), 1)[1], (1, 0))
        self.just(rooted(TWINS, (0, 1), 1), ((), (0, 1)))
        self.just(rooted(TWINS, (0, 0), 1), ((("shore", (0,)),), (1, 1)))
        self.just(rooted(FLAG, FLAG_SIGNING, 3)[1], (0, 1, 0, 1, 0))

    def test_all_towns_are_come_to_behind_shores(self):
        for plan in SMALL_PLANS:
            for signing in helper.signings_of(plan):
                for root in range(plan[0]):
                    self.is_right(plan, signing, root)

    def test_nine_streets(self):
        for plan in BIG_PLANS:
            for signing in helper.some_signings(plan, 40):
                for root in range(plan[0]):
                    self.is_right(plan, signing, root)

    def test_there_is_just_one_such_signing(self):
        for plan in SMALL_PLANS:
            for signing in helper.some_signings(plan, 16):
                led = helper.led_to_told(plan, signing, ("shore",))
                for root in range(plan[0]):
                    found = [other for other in led if all_from(plan, other, root)]
                    self.assertEqual(found, [self.is_right(plan, signing, root)])

    def test_where_all_are_come_to_none_is_turned(self):
        for plan in SMALL_PLANS + BIG_PLANS:
            for signing in helper.some_signings(plan):
                for root in range(plan[0]):
                    if all_from(plan, signing, root):
                        self.just(rooted(plan, signing, root), ((), signing))

    def test_refusals(self):
        for call in (rooted, name_of):
            for town in (-1, 3, None, True, False, "0", (0,), [], {}, 10 ** 12):
                self.refused(NoTown, call, TRIANGLE, (0, 0, 0), town)
            self.refused(NoPlan, call, None, (0, 0, 0), 9)
            self.refused(NoSigning, call, TRIANGLE, (0, 0), 9)


class Name(Case):
    def test_by_hand(self):
        self.just(name_of(ALONE, (), 0), (0,))
        self.just(name_of(PAIR, (0,), 0), (1, 0))
        self.just(name_of(PAIR, (1,), 0), (1, 0))
        self.just(name_of(PAIR, (1,), 1), (0, 1))
        self.just(name_of(TWINS, (0, 1), 1), (1, 1))
        self.just(name_of(TWINS, (0, 0), 1), (0, 2))
        self.just(name_of(FLAG, FLAG_SIGNING, 4), (1, 1, 1, 1, 1))

    def test_the_outs_of_each_signing_led_to_in_which_all_are_come_to(self):
        for plan in SMALL_PLANS:
            for signing in helper.some_signings(plan, 16):
                led = helper.led_to_told(plan, signing, BOTH)
                for root in range(plan[0]):
                    names = {helper.outs_told(plan, other) for other in led
                             if all_from(plan, other, root)}
                    self.just([name_of(plan, signing, root)], list(names))

    def test_two_lead_to_one_another_just_where_they_have_one_name(self):
        for plan in SMALL_PLANS:
            for one in helper.some_signings(plan, 12):
                led = helper.led_to_told(plan, one, BOTH)
                for other in helper.signings_of(plan):
                    for root in range(plan[0]):
                        alike = name_of(plan, one, root) == name_of(plan, other, root)
                        self.assertEqual(alike, other in led)

    def test_as_many_names_as_trees(self):
        for plan, trees in TREES.items():
            for root in (0, plan[0] - 1):
                names = {name_of(plan, signing, root) for signing in helper.signings_of(plan)}
                self.assertEqual(len(names), trees)


class NameBy(Case):
    def test_by_hand(self):
        self.just(name_by(ALONE, (0,), 0), (0,))
        self.just(name_by(PAIR, (0, 1), 0), (1, 0))
        self.just(name_by(PAIR, (-4, 5), 1), (0, 1))
        self.just(name_by(TWINS, (3, -1), 0), (1, 1))
        self.just(name_by(TWINS, (4, -2), 0), (2, 0))
        self.just(name_by(TWINS, (-9999999999998, 10 ** 13), 1), (0, 2))
        self.just(name_by(TWINS, (-9999999999997, 9999999999999), 1), (1, 1))

    def test_of_outs_it_is_the_name(self):
        for plan in SMALL_PLANS + BIG_PLANS:
            for signing in helper.some_signings(plan, 10):
                for root in range(plan[0]):
                    self.just(name_by(plan, helper.outs_told(plan, signing), root),
                              name_of(plan, signing, root))

    def test_sweeps_however_many_change_nothing(self):
        for plan in SMALL_PLANS + BIG_PLANS:
            for place, signing in enumerate(helper.some_signings(plan, 6)):
                outs = helper.outs_told(plan, signing)
                for times in ([town * town * (place + 1) for town in range(plan[0])],
                              [(7 ** (town + 8)) * (place + 1) for town in range(plan[0])],
                              [(11 ** (town + 6)) * (-1) ** town for town in range(plan[0])]):
                    numbers = swept_at_once(plan, outs, times)
                    self.assertTrue(all(abs(number) < 10 ** 13 for number in numbers))
                    for root in (0, plan[0] - 1):
                        self.just(name_by(plan, numbers, root), name_of(plan, signing, root))

    def test_each_numbers_have_a_name_and_sweeps_lead_to_it(self):
        for plan in SMALL_PLANS + BIG_PLANS:
            for root in (0, plan[0] - 1):
                names = {name_of(plan, signing, root) for signing in helper.some_signings(plan, 512)}
                for numbers in numbers_of(plan, 12):
                    told = name_by(plan, numbers, root)
                    self.assertIn(told, names)
                    self.assertTrue(sweeps_bring(plan, [first - second for first, second
                                                        in zip(told, numbers)]), (plan, numbers))

    def test_numbers_great_and_below_0(self):
        for great in (10 ** 12, 9999999999990):
            for plan in (TRIANGLE, KITE, PRISM, helper.CROSSES):
                numbers = (great, -great + len(plan[1])) + (0,) * (plan[0] - 2)
                told = name_by(plan, numbers, 1)
                self.assertTrue(sweeps_bring(plan, [first - second for first, second
                                                    in zip(told, numbers)]))

    def test_kinds_are_put_together(self):
        for plan in (TRIANGLE, KITE, BOW, PRISM):
            every = helper.some_signings(plan, 4)
            for first, second, third in product(every, repeat=3):
                numbers = tuple(a + b - c for a, b, c in zip(*[helper.outs_told(plan, signing)
                                                               for signing in (first, second, third)]))
                told = name_by(plan, numbers, 0)
                if second == third:
                    self.just(told, name_of(plan, first, 0))
                less = [part - number for part, number in zip(told, numbers)]
                self.assertTrue(sweeps_bring(plan, less))

    def test_what_is_no_numbers(self):
        for numbers in ((), (1,), (1, 0, 0), (1, 1), (0, 0), [1, 0], None, True, 1, "10", {0: 1, 1: 0},
                        (True, False), (1, False), (None, 1), (1, None), ("1", "0"), ((1,), 0), ([], 1),
                        (2, 0), (-1, 1), (9999999999999, -9999999999999)):
            self.refused(NoNumbers, name_by, PAIR, numbers, 0)
        self.refused(NoNumbers, name_by, ALONE, (), 0)
        self.refused(NoNumbers, name_by, ALONE, (1,), 0)

    def test_of_several_the_first(self):
        self.refused(NoPlan, name_by, (2, ()), (0, 0), 2)
        self.refused(NoNumbers, name_by, PAIR, (1, 1), 2)
        self.refused(NoTown, name_by, PAIR, (2, -1), 2)
        self.refused(NoTown, name_by, PAIR, (2, -1), True)

    def test_anything(self):
        for thing in helper.odd_things():
            if repr(thing) not in ("(0, 1)", "(1, 0)"):
                self.refused(NoNumbers, name_by, PAIR, thing, 0)
            if repr(thing) not in ("0", "1"):
                self.refused(NoTown, name_by, PAIR, (1, 0), thing)
                self.refused(NoTown, rooted, PAIR, (0,), thing)


class LeastTimes(Case):
    def least_told(self, plan, one, other):
        changes = [second - first for first, second in
                   zip(helper.outs_told(plan, one), helper.outs_told(plan, other))]
        times = 1
        while not sweeps_bring(plan, [times * change for change in changes]):
            times += 1
        return times

    def test_by_hand(self):
        self.just(least_times(ALONE, (), ()), 1)
        self.just(least_times(PAIR, (0,), (1,)), 1)
        self.just(least_times(TWINS, (0, 0), (0, 1)), 2)
        self.just(least_times(TRIPLETS, (0, 0, 0), (0, 0, 1)), 3)
        self.just(least_times(TRIPLETS, (0, 0, 0), (1, 1, 1)), 1)
        self.just(least_times(NINE_LIKE, (0,) * 9, (1, 1, 1) + (0,) * 6), 3)
        self.just(least_times(NINE_LIKE, (0,) * 9, (1, 1) + (0,) * 7), 9)

    def test_all_pairs_of_small_plans(self):
        for plan in SMALL_PLANS:
            for one, other in helper.some_pairs(plan, 12):
                self.just(least_times(plan, one, other), self.least_told(plan, one, other))

    def test_nine_streets(self):
        for plan in BIG_PLANS:
            for one, other in helper.some_pairs(plan, 7):
                told = least_times(plan, one, other)
                self.just(told, self.least_told(plan, one, other))
                self.assertEqual(TREES[plan] % told, 0)

    def test_1_just_where_both_lead_there(self):
        for plan in SMALL_PLANS:
            for one in helper.some_signings(plan, 8):
                led = helper.led_to_told(plan, one, BOTH)
                for other in helper.signings_of(plan):
                    self.assertEqual(least_times(plan, one, other) == 1, other in led)

"""Points 20, 21 and 22: rings and shores, turns and rows of turns."""

from ringshores.errors import NoRow, NoTurn
from ringshores.plans import outs
from ringshores.turns import back, behind, is_row, rings_first, rings_of, shores_of, turned
from tests import helper
from tests.helper import (ALONE, BIG_PLANS, BOW, FLAG, FLAG_SIGNING, KITE, NINE_LIKE, PAIR, PATH,
                          SMALL_PLANS, TRIANGLE, TWINS, Case)

BOW_SIGNING = (0, 1, 0, 0, 1, 0)


class Rings(Case):
    def test_some_by_hand(self):
        self.just(rings_of(ALONE, ()), ())
        self.just(rings_of(PAIR, (0,)), ())
        self.just(rings_of(PATH, (0, 1)), ())
        self.just(rings_of(TRIANGLE, (0, 1, 0)), ((0, 1, 2),))
        self.just(rings_of(TRIANGLE, (1, 0, 1)), ((0, 1, 2),))
        self.just(rings_of(TRIANGLE, (0, 0, 0)), ())
        self.just(rings_of(helper.SQUARE, (0, 1, 0, 0)), ((0, 1, 2, 3),))

    def test_two_streets_between_the_same_two_towns(self):
        self.just(rings_of(TWINS, (0, 1)), ((0, 1),))
        self.just(rings_of(TWINS, (1, 0)), ((0, 1),))
        self.just(rings_of(TWINS, (0, 0)), ())
        self.just(rings_of(helper.TRIPLETS, (0, 1, 0)), ((0, 1), (1, 2)))
        self.just(rings_of(helper.TRIPLETS, (1, 1, 0)), ((0, 2), (1, 2)))

    def test_two_rounds_are_no_ring(self):
        self.just(rings_of(BOW, BOW_SIGNING), ((0, 1, 2), (3, 4, 5)))

    def test_told_rising_as_python_compares_tuples(self):
        self.just(rings_of(NINE_LIKE, (0, 0, 0, 0, 1, 1, 0, 0, 0)),
                  ((0, 4), (0, 5), (1, 4), (1, 5), (2, 4), (2, 5), (3, 4), (3, 5),
                   (4, 6), (4, 7), (4, 8), (5, 6), (5, 7), (5, 8)))
        plan = (3, ((0, 1), (0, 1), (0, 2), (1, 2)))
        self.just(rings_of(plan, (0, 1, 1, 0)), ((0, 1), (0, 2, 3)))

    def test_all_against_all_lots_of_streets(self):
        for plan in SMALL_PLANS:
            for signing in helper.signings_of(plan):
                self.just(rings_of(plan, signing), helper.rings_told(plan, signing))
        for plan in BIG_PLANS:
            for signing in helper.some_signings(plan):
                self.just(rings_of(plan, signing), helper.rings_told(plan, signing))


class Shores(Case):
    def test_some_by_hand(self):
        self.just(shores_of(ALONE, ()), ())
        self.just(shores_of(PAIR, (0,)), ((0,),))
        self.just(shores_of(PAIR, (1,)), ((1,),))
        self.just(shores_of(TWINS, (0, 0)), ((0,),))
        self.just(shores_of(TWINS, (0, 1)), ())
        self.just(shores_of(TRIANGLE, (0, 0, 0)), ((0,), (0, 1)))
        self.just(shores_of(TRIANGLE, (0, 1, 0)), ())

    def test_shores_that_do_not_hang_together(self):
        self.just(shores_of(PATH, (0, 1)), ((0,), (0, 2), (2,)))
        self.just(shores_of(PATH, (1, 0)), ((0, 1), (1,), (1, 2)))
        self.assertEqual(len(shores_of(helper.STAR, (0, 0, 0, 1, 1))), 31)

    def test_all_against_all_lots_of_towns(self):
        for plan in SMALL_PLANS + BIG_PLANS:
            for signing in helper.signings_of(plan):
                self.just(shores_of(plan, signing), helper.shores_told(plan, signing))


class Turned(Case):
    def test_a_ring_by_hand(self):
        self.just(turned(TRIANGLE, (0, 1, 0), ("ring", (0, 1, 2))), (1, 0, 1))
        self.just(turned(helper.TRIPLETS, (0, 1, 0), ("ring", (1, 2))), (0, 0, 1))
        self.just(turned(BOW, BOW_SIGNING, ("ring", (3, 4, 5))), (0, 1, 0, 1, 0, 1))

    def test_a_shore_by_hand(self):
        self.just(turned(PAIR, (0,), ("shore", (0,))), (1,))
        self.just(turned(PATH, (0, 1), ("shore", (0, 2))), (1, 0))
        self.just(turned(PATH, (0, 1), ("shore", (2,))), (0, 0))
        self.just(turned(TRIANGLE, (0, 0, 0), ("shore", (0, 1))), (0, 1, 1))
        self.just(turned(FLAG, FLAG_SIGNING, ("shore", (0, 1, 2, 3))), (0, 1, 0, 0, 1))

    def test_each_turn_that_can_be_done(self):
        for plan in SMALL_PLANS + BIG_PLANS:
            for signing in helper.some_signings(plan):
                for turn in helper.turns_told(plan, signing):
                    self.just(turned(plan, signing, turn),
                              helper.turned_told(plan, signing, turn))

    def test_no_turn_of_each_lot_that_is_no_ring_and_no_shore(self):
        for plan in (ALONE, PAIR, TWINS, TRIANGLE, KITE, BOW, FLAG):
            for signing in helper.some_signings(plan, 12):
                turns = helper.turns_told(plan, signing)
                asked = [("ring", lot) for lot in helper.lots(len(plan[1]) + 1)]
                asked += [("shore", lot) for lot in helper.lots(plan[0] + 1)]
                for turn in asked:
                    if turn not in turns:
                        self.refused(NoTurn, turned, plan, signing, turn)

    def test_no_turn_of_none_or_all(self):
        self.refused(NoTurn, turned, ALONE, (), ("ring", ()))
        self.refused(NoTurn, turned, ALONE, (), ("shore", ()))
        self.refused(NoTurn, turned, ALONE, (), ("shore", (0,)))
        self.refused(NoTurn, turned, TRIANGLE, (0, 1, 0), ("ring", ()))
        self.refused(NoTurn, turned, TRIANGLE, (0, 0, 0), ("shore", ()))
        self.refused(NoTurn, turned, TRIANGLE, (0, 0, 0), ("shore", (0, 1, 2)))

    def test_no_turn_of_two_rounds_at_once(self):
        self.refused(NoTurn, turned, BOW, BOW_SIGNING, ("ring", (0, 1, 2, 3, 4, 5)))
        self.refused(NoTurn, turned, helper.PRISM, (0, 1, 0, 0, 0, 0, 0, 1, 0),
                     ("ring", (0, 1, 3, 6, 7, 8)))

    def test_no_turn_of_an_order_that_does_not_rise(self):
        self.refused(NoTurn, turned, TRIANGLE, (0, 1, 0), ("ring", (0, 2, 1)))
        self.refused(NoTurn, turned, TRIANGLE, (0, 1, 0), ("ring", (0, 1, 2, 2)))
        self.refused(NoTurn, turned, TRIANGLE, (0, 1, 0), ("ring", (0, 0, 1, 2)))
        self.refused(NoTurn, turned, TRIANGLE, (0, 0, 0), ("shore", (1, 0)))
        self.refused(NoTurn, turned, TRIANGLE, (0, 0, 0), ("shore", (0, 0)))

    def test_no_turn_of_the_other_word(self):
        self.refused(NoTurn, turned, TWINS, (0, 1), ("shore", (0, 1)))
        self.refused(NoTurn, turned, TRIANGLE, (0, 0, 0), ("ring", (0, 1)))
        self.refused(NoTurn, turned, PAIR, (0,), ("Shore", (0,)))
        self.refused(NoTurn, turned, PAIR, (0,), ("shore ", (0,)))
        self.refused(NoTurn, turned, PAIR, (0,), ("", (0,)))
        self.refused(NoTurn, turned, PAIR, (0,), (None, (0,)))
        self.refused(NoTurn, turned, PAIR, (0,), ("turn", (0,)))

    def test_no_turn_of_truths_lists_and_other_kinds(self):
        for turn in (("ring", (False, True, 2)), ("ring", (0, True, 2)), ("ring", [0, 1, 2]),
                     ["ring", (0, 1, 2)], ("ring", {0: 0, 1: 1, 2: 2}), ("ring", "012"),
                     ("ring", ("0", "1", "2")), ("ring", (0, 1, 2), ()), ("ring", (0, 1, None)),
                     ("ring", (0, 1, (2,))), ("ring", (0, 1, [2])), ("ring", 0, 1, 2), ("ring",),
                     ((0, 1, 2), "ring"), {"ring": (0, 1, 2)}, "ring", (0, 1, 2), None, (), 0,
                     ("ring", (-3, -2, -1)), ("ring", (0, 1, 2, 3)), ("ring", (0, 1, 2, 10 ** 12)),
                     (("ring", (0, 1, 2)),), (("ring",), (0, 1, 2)), (["ring"], (0, 1, 2))):
            self.refused(NoTurn, turned, TRIANGLE, (0, 1, 0), turn)
        for turn in (("shore", (False,)), ("shore", (0, True)), ("shore", [0]), ("shore", 0),
                     ["shore", (0,)], ("shore", {0: 0}), ("shore", ((0,),)), ("shore", (None,)),
                     ("shore", (-1, 0)), ("shore", (0, 1, 3)), ("shore", None), ("shore", "0")):
            self.refused(NoTurn, turned, TRIANGLE, (0, 0, 0), turn)

    def test_anything_and_turns_with_parts_otherwise(self):
        fillings = [None, True, "", [], {}, 0, 1, 2, 3, ()]
        for plan, signing in ((ALONE, ()), (PAIR, (0,)), (TWINS, (0, 1)), (TRIANGLE, (0, 0, 0)),
                              (FLAG, FLAG_SIGNING)):
            turns = {repr(turn): turn for turn in helper.turns_told(plan, signing)}
            for thing in helper.odd_things() + [
                    like for turn in turns.values() for like in helper.likes(turn, fillings)]:
                if repr(thing) in turns:
                    self.just(turned(plan, signing, thing),
                              helper.turned_told(plan, signing, thing))
                else:
                    self.refused(NoTurn, turned, plan, signing, thing)


ROW = (("shore", (0, 1, 2)), ("ring", (0, 1, 2)), ("shore", (0, 1, 2, 3)), ("ring", (0, 1, 2)),
       ("shore", (3, 4)), ("ring", (0, 1, 2)))
ROW_BEHIND = (1, 0, 1, 0, 1)


class Rows(Case):
    def no_row(self, plan, signing, thing):
        self.assertIs(is_row(plan, signing, thing), False, repr(thing)[:200])
        for call in (behind, back, rings_first):
            self.refused(NoRow, call, plan, signing, thing)

    def test_none_at_all(self):
        for plan in SMALL_PLANS:
            signing = (0,) * len(plan[1])
            self.assertIs(is_row(plan, signing, ()), True)
            self.just(behind(plan, signing, ()), signing)
            self.just(back(plan, signing, ()), ())
            self.just(rings_first(plan, signing, ()), ())

    def test_one_behind_the_other(self):
        self.assertIs(is_row(FLAG, FLAG_SIGNING, ROW), True)
        self.just(behind(FLAG, FLAG_SIGNING, ROW), ROW_BEHIND)
        for length, signing in enumerate(((0, 1, 0, 0, 0), (0, 1, 0, 1, 0), (1, 0, 1, 1, 0),
                                          (1, 0, 1, 1, 1), (0, 1, 0, 1, 1), (0, 1, 0, 0, 1))):
            self.just(behind(FLAG, FLAG_SIGNING, ROW[:length]), signing)

    def test_a_turn_that_can_not_be_done_at_its_place(self):
        self.no_row(FLAG, FLAG_SIGNING, ROW[:1] + ROW[:1])
        self.no_row(FLAG, FLAG_SIGNING, ROW[2:])
        self.no_row(FLAG, FLAG_SIGNING, ROW[4:])
        self.no_row(FLAG, FLAG_SIGNING, ROW[:5] + ROW[4:5])
        self.no_row(FLAG, FLAG_SIGNING, ROW + (("ring", (3, 4)),))
        self.no_row(FLAG, FLAG_SIGNING, (("shore", (4,)),))
        self.no_row(PAIR, (0,), (("shore", (1,)), ("shore", (0,))))

    def test_each_turn_only_where_it_can_be_done(self):
        for plan in (PAIR, TWINS, helper.TRIPLETS, PATH, TRIANGLE, KITE):
            for signing in helper.signings_of(plan):
                for one in helper.turns_told(plan, signing):
                    between = helper.turned_told(plan, signing, one)
                    turns = helper.turns_told(plan, between)
                    for other in set(turns) | set(helper.turns_told(plan, signing)):
                        if other in turns:
                            self.just(behind(plan, signing, (one, other)),
                                      helper.turned_told(plan, between, other))
                        else:
                            self.no_row(plan, signing, (one, other))

    def test_no_tuple_of_turns(self):
        for thing in (list(ROW), None, True, False, 0, 1, "", "-", "ring", [], {}, (None,), (0,),
                      ((),), ([],), ({},), ("ring",), ("shore", (0, 1, 2)), (list(ROW[0]),),
                      (("shore", [0, 1, 2]),), (("shore", (0, True, 2)),), {0: ROW[0]}, (ROW,),
                      ROW[:2] + (None,), (None,) + ROW[:2], ROW + ((),), ((ROW[0], ROW[1]),),
                      (("ring", (0, 1, 2), 3),), (("ring", (0, 2, 1)),), "ring 0 1 2"):
            self.no_row(FLAG, FLAG_SIGNING, thing)

    def test_anything(self):
        for plan, signing in ((ALONE, ()), (PAIR, (0,)), (TWINS, (0, 1)), (FLAG, FLAG_SIGNING)):
            turns = helper.turns_told(plan, signing)
            rows = ["()"] + [repr((turn,)) for turn in turns]
            for thing in helper.odd_things():
                if repr(thing) in rows:
                    self.assertIs(is_row(plan, signing, thing), True)
                else:
                    self.no_row(plan, signing, thing)

    def test_rows_with_parts_otherwise(self):
        rows = {repr(ROW[:2] + end) for end in ((), ROW[2:3], ROW[1:2])} | {"()", repr(ROW[:1])}
        rows |= {repr((turn,)) for turn in helper.turns_told(FLAG, FLAG_SIGNING)}
        swapped = (ROW[1], ROW[0])
        for first in helper.turns_told(FLAG, FLAG_SIGNING):
            signing = helper.turned_told(FLAG, FLAG_SIGNING, first)
            for second in helper.turns_told(FLAG, signing):
                rows.add(repr((first, second)))
                last = helper.turned_told(FLAG, signing, second)
                rows |= {repr((first, second, third)) for third in helper.turns_told(FLAG, last)}
        for row in (ROW[:2], swapped):
            for thing in helper.likes(row, [None, True, "", [], {}, 0, 3, (), ROW[0], ROW[2]]):
                self.assertIs(is_row(FLAG, FLAG_SIGNING, thing), repr(thing) in rows, thing)

    def test_forty_turns(self):
        for plan in (TRIANGLE, KITE, BOW, FLAG, helper.LOOSE_SIX, helper.PRISM):
            signing = helper.signings_of(plan)[5]
            row, last = helper.walk_row(plan, signing, 40, lambda place: 7 * place + 3)
            self.assertEqual(len(row), 40)
            self.assertIs(is_row(plan, signing, row), True)
            self.just(behind(plan, signing, row), last)
            self.just(behind(plan, last, back(plan, signing, row)), signing)
            self.just(behind(plan, signing, rings_first(plan, signing, row)), last)
            self.no_row(plan, signing, row[:-1] + (None,))
            self.no_row(plan, signing, row[:-1] + (list(row[-1]),))

    def test_a_told_row_that_is_longer(self):
        row, last = helper.walk_row(FLAG, FLAG_SIGNING, 40, lambda place: 5 * place + 1)
        told = back(FLAG, FLAG_SIGNING, row)
        for _ in range(6):
            row = row + told
            told = back(FLAG, FLAG_SIGNING, row)
            self.assertEqual(len(told), len(row))
            self.assertIs(is_row(FLAG, FLAG_SIGNING, told), True)
            self.just(behind(FLAG, FLAG_SIGNING, row), FLAG_SIGNING)
            self.just(behind(FLAG, FLAG_SIGNING, told), FLAG_SIGNING)
            ahead = rings_first(FLAG, FLAG_SIGNING, told)
            self.assertEqual(len(ahead), len(told))
            self.just(behind(FLAG, FLAG_SIGNING, ahead), FLAG_SIGNING)
            self.no_row(FLAG, FLAG_SIGNING, told + (("ring", (0, 1)),))
        self.assertGreater(len(told), 2000)


class Back(Case):
    def test_by_hand(self):
        self.just(back(FLAG, FLAG_SIGNING, ROW),
                  (("ring", (0, 1, 2)), ("shore", (0, 1, 2)), ("ring", (0, 1, 2)),
                   ("shore", (4,)), ("ring", (0, 1, 2)), ("shore", (3, 4))))
        self.just(back(PATH, (0, 1), (("shore", (0, 2)),)), (("shore", (1,)),))
        self.just(back(PATH, (0, 1), (("shore", (0,)), ("shore", (2,)))),
                  (("shore", (0, 1)), ("shore", (1, 2))))

    def test_it_leads_back(self):
        for plan in SMALL_PLANS + BIG_PLANS:
            for signing in helper.some_signings(plan, 6):
                row, last = helper.walk_row(plan, signing, 5, lambda place: 3 * place + 2)
                told = back(plan, signing, row)
                self.just(behind(plan, last, told), signing)
                wanted = []
                for word, lot in row[::-1]:
                    rest = tuple(sorted(set(range(plan[0])) - set(lot)))
                    wanted.append((word, lot if word == "ring" else rest))
                self.just(told, tuple(wanted))
                self.just(back(plan, last, told), row)


class RingsFirst(Case):
    def test_by_hand(self):
        self.just(rings_first(FLAG, FLAG_SIGNING, ROW),
                  (ROW[1], ROW[3], ROW[5], ROW[0], ROW[2], ROW[4]))
        bow = (("ring", (3, 4, 5)), ("ring", (0, 1, 2)), ("ring", (3, 4, 5)))
        self.just(rings_first(BOW, BOW_SIGNING, bow), bow)
        path = (("shore", (0, 2)), ("shore", (1,)), ("shore", (0,)))
        self.just(rings_first(PATH, (0, 1), path), path)

    def test_it_does_the_same(self):
        for plan in SMALL_PLANS + BIG_PLANS:
            for signing in helper.some_signings(plan, 6):
                row, last = helper.walk_row(plan, signing, 6, lambda place: 5 * place + 1)
                told = rings_first(plan, signing, row)
                rings = [turn for turn in row if turn[0] == "ring"]
                shores = [turn for turn in row if turn[0] == "shore"]
                self.just(told, tuple(rings + shores))
                self.just(behind(plan, signing, told), last)
                self.just(outs(plan, behind(plan, signing, tuple(rings))), outs(plan, signing))

"""Point 111: a keeper, its deeds, and what it tells."""

from inspect import signature

from ringshores.errors import NoPlan, NoRow, NoSigning, NothingDone, NoTurn
from ringshores.keeper import Keeper
from ringshores.plans import outs
from ringshores.turns import behind, turned
from tests import helper
from tests.helper import (ALONE, BIG_PLANS, FLAG, FLAG_SIGNING, PAIR, PATH, SMALL_PLANS, TRIANGLE, TWINS,
                          Case)

RING, SHORE = ("ring", (0, 1, 2)), ("shore", (0, 1, 2))
METHODS = {"ring": ["streets"], "shore": ["towns"], "play": ["row"], "undo": [], "signing": [], "row": [],
           "outs": [], "twin": []}


class Kept(Case):
    def stands(self, keeper, plan, signing, row, deeds):
        """All that a keeper tells is as it should be."""
        self.just(keeper.signing(), signing)
        self.just(keeper.row(), row)
        self.just(keeper.outs(), helper.outs_told(plan, signing))
        self.just(len(keeper), deeds)
        self.just(str(keeper), "Keeper(" + str(plan[0]) + " towns, " + str(len(row)) + " turns)")
        self.just(repr(keeper), str(keeper), "once more")
        self.assertIs(keeper == Keeper(plan, signing), True)


class Making(Kept):
    def test_new(self):
        for plan in SMALL_PLANS + BIG_PLANS:
            for signing in helper.some_signings(plan, 4):
                self.stands(Keeper(plan, signing), plan, signing, (), 0)

    def test_by_names_and_places(self):
        self.stands(Keeper(plan=FLAG, signing=FLAG_SIGNING), FLAG, FLAG_SIGNING, (), 0)
        self.stands(Keeper(signing=FLAG_SIGNING, plan=FLAG), FLAG, FLAG_SIGNING, (), 0)
        self.stands(Keeper(FLAG, signing=FLAG_SIGNING), FLAG, FLAG_SIGNING, (), 0)
        self.assertEqual(list(signature(Keeper).parameters), ["plan", "signing"])

    def test_methods_stand_in_the_class_itself(self):
        for name, places in METHODS.items():
            self.assertEqual(list(signature(vars(Keeper)[name]).parameters), ["self"] + places)
        for name in ("__len__", "__eq__", "__repr__", "__init__"):
            self.assertIn(name, vars(Keeper))
        self.assertEqual(Keeper.__module__, "ringshores.keeper")

    def test_refusals(self):
        for thing in helper.odd_things():
            if repr(thing) not in ("(1, ())", "(2, ((0, 1),))"):
                self.refused(NoPlan, Keeper, thing, None)
            if repr(thing) != "()":
                self.refused(NoSigning, Keeper, ALONE, thing)
        self.refused(NoSigning, Keeper, FLAG, FLAG_SIGNING[1:])
        self.refused(NoSigning, Keeper, FLAG, (0, True, 0, 0, 0))
        self.refused(NoPlan, Keeper, (5, FLAG[1][1:-1]), FLAG_SIGNING[1:])


class Deeds(Kept):
    def test_each_tells_none(self):
        keeper = Keeper(FLAG, FLAG_SIGNING)
        self.assertIs(keeper.ring((0, 1, 2)), None)
        self.assertIs(keeper.shore((0, 1, 2)), None)
        self.assertIs(keeper.play(()), None)
        self.assertIs(keeper.undo(), None)

    def test_by_names(self):
        keeper = Keeper(FLAG, FLAG_SIGNING)
        self.assertIs(keeper.ring(streets=(0, 1, 2)), None)
        self.assertIs(keeper.shore(towns=(0, 1, 2)), None)
        self.assertIs(keeper.play(row=(RING, RING)), None)
        self.stands(keeper, FLAG, (1, 0, 1, 1, 0), (RING, SHORE, RING, RING), 3)

    def test_rings_and_shores_by_hand(self):
        keeper = Keeper(FLAG, FLAG_SIGNING)
        keeper.ring((0, 1, 2))
        self.stands(keeper, FLAG, (1, 0, 1, 0, 0), (RING,), 1)
        keeper.shore((0, 1, 2))
        self.stands(keeper, FLAG, (1, 0, 1, 1, 0), (RING, SHORE), 2)
        keeper.undo()
        self.stands(keeper, FLAG, (1, 0, 1, 0, 0), (RING,), 1)
        keeper.undo()
        self.stands(keeper, FLAG, FLAG_SIGNING, (), 0)

    def test_a_row_is_one_deed(self):
        keeper = Keeper(FLAG, FLAG_SIGNING)
        keeper.play((RING, SHORE, RING))
        self.stands(keeper, FLAG, (0, 1, 0, 1, 0), (RING, SHORE, RING), 1)
        keeper.undo()
        self.stands(keeper, FLAG, FLAG_SIGNING, (), 0)

    def test_a_row_of_none_is_a_deed_too(self):
        for plan, signing in ((ALONE, ()), (FLAG, FLAG_SIGNING)):
            keeper = Keeper(plan, signing)
            keeper.play(())
            self.stands(keeper, plan, signing, (), 1)
            keeper.play(())
            self.stands(keeper, plan, signing, (), 2)
            keeper.undo()
            self.stands(keeper, plan, signing, (), 1)
            keeper.undo()
            self.stands(keeper, plan, signing, (), 0)
            self.refused(NothingDone, keeper.undo)

    def test_of_none_left_to_undo(self):
        keeper = Keeper(TWINS, (0, 1))
        self.refused(NothingDone, keeper.undo)
        self.stands(keeper, TWINS, (0, 1), (), 0)
        keeper.ring((0, 1))
        keeper.undo()
        for _ in range(2):
            self.refused(NothingDone, keeper.undo)
            self.stands(keeper, TWINS, (0, 1), (), 0)
        keeper.ring((0, 1))
        self.stands(keeper, TWINS, (1, 0), (("ring", (0, 1)),), 1)

    def test_what_is_refused_leaves_all_as_it_was(self):
        keeper = Keeper(FLAG, FLAG_SIGNING)
        keeper.shore((0, 1, 2))
        now = (FLAG, (0, 1, 0, 1, 0), (SHORE,), 1)
        for thing in helper.odd_things() + [(0, 1), (2, 1, 0), [0, 1, 2], (0, 1, 2, 2), (0, True, 2)]:
            self.refused(NoTurn, keeper.ring, thing)
            self.refused(NoTurn, keeper.shore, thing)
            self.stands(keeper, *now)
        # What led out at first leads in now.
        self.refused(NoTurn, keeper.shore, (0, 1, 2))
        for row in (None, [], RING, SHORE, (SHORE,), (RING, SHORE), (RING, RING, None), [RING], ((),),
                    (RING, ["ring", (0, 1, 2)]), (("shore", (3,)), ("shore", (3,))), {RING: 0}):
            self.refused(NoRow, keeper.play, row)
            self.stands(keeper, *now)
        keeper.play((RING, ("shore", (3, 4))))
        self.stands(keeper, FLAG, (1, 0, 1, 0, 0), (SHORE, RING, ("shore", (3, 4))), 2)

    def test_anything_played(self):
        for thing in helper.odd_things():
            keeper = Keeper(PAIR, (0,))
            if repr(thing) == "()":
                keeper.play(thing)
                self.stands(keeper, PAIR, (0,), (), 1)
            elif repr(thing) == "(('shore', (0,)),)":
                keeper.play(thing)
                self.stands(keeper, PAIR, (1,), (("shore", (0,)),), 1)
            else:
                self.refused(NoRow, keeper.play, thing)
                self.stands(keeper, PAIR, (0,), (), 0)

    def test_a_list_that_is_refused_stays_the_callers_own(self):
        keeper = Keeper(TWINS, (0, 1))
        row = [("ring", (0, 1))]
        self.refused(NoRow, keeper.play, row)
        self.just(row, [("ring", (0, 1))])

    def test_long_lives(self):
        """Deeds of all kinds against a list of all that stand, undone now and then."""
        for plan in SMALL_PLANS + BIG_PLANS:
            for place, signing in enumerate(helper.some_signings(plan, 3)):
                keeper = Keeper(plan, signing)
                stand = [(signing, ())]
                for step in range(24):
                    now, row = stand[-1]
                    turns = helper.turns_told(plan, now)
                    if step % 5 == 4 and len(stand) > 1:
                        keeper.undo()
                        stand.pop()
                    elif turns and step % 3 != 2:
                        turn = turns[(7 * step + place) % len(turns)]
                        getattr(keeper, turn[0])(turn[1])
                        stand.append((helper.turned_told(plan, now, turn), row + (turn,)))
                    else:
                        more, last = helper.walk_row(plan, now, step % 4, lambda at: 5 * at + step)
                        keeper.play(more)
                        stand.append((last, row + more))
                    self.stands(keeper, plan, *stand[-1], len(stand) - 1)
                while len(stand) > 1:
                    keeper.undo()
                    stand.pop()
                    self.stands(keeper, plan, *stand[-1], len(stand) - 1)

    def test_it_tells_what_the_functions_tell(self):
        for plan in BIG_PLANS:
            for signing in helper.some_signings(plan, 4):
                for turn in helper.turns_told(plan, signing):
                    keeper = Keeper(plan, signing)
                    getattr(keeper, turn[0])(turn[1])
                    self.just(keeper.signing(), turned(plan, signing, turn))
                    self.just(keeper.outs(), outs(plan, keeper.signing()))
                    self.just(behind(plan, signing, keeper.row()), keeper.signing())

    def test_what_stands_may_be_played_again(self):
        row, last = helper.walk_row(helper.LOOSE_SIX, (0, 1, 0, 1, 0, 0, 1, 0, 1), 40, lambda at: 3 * at + 1)
        first = Keeper(helper.LOOSE_SIX, (0, 1, 0, 1, 0, 0, 1, 0, 1))
        for word, lot in row:
            getattr(first, word)(lot)
        second = Keeper(helper.LOOSE_SIX, (0, 1, 0, 1, 0, 0, 1, 0, 1))
        second.play(first.row())
        self.stands(first, helper.LOOSE_SIX, last, row, 40)
        self.stands(second, helper.LOOSE_SIX, last, row, 1)


class Twins(Kept):
    def test_the_same_deeds_can_be_undone(self):
        keeper = Keeper(FLAG, FLAG_SIGNING)
        keeper.ring((0, 1, 2))
        keeper.play((SHORE, RING))
        twin = keeper.twin()
        self.assertIs(type(twin), Keeper)
        self.assertIsNot(twin, keeper)
        self.assertIs(twin == keeper, True)
        self.stands(twin, FLAG, (0, 1, 0, 1, 0), (RING, SHORE, RING), 2)
        twin.undo()
        self.stands(twin, FLAG, (1, 0, 1, 0, 0), (RING,), 1)
        twin.undo()
        self.stands(twin, FLAG, FLAG_SIGNING, (), 0)
        self.refused(NothingDone, twin.undo)
        self.stands(keeper, FLAG, (0, 1, 0, 1, 0), (RING, SHORE, RING), 2)

    def test_what_the_first_does_behind_is_not_the_twins(self):
        keeper = Keeper(FLAG, FLAG_SIGNING)
        keeper.ring((0, 1, 2))
        twin = keeper.twin()
        keeper.shore((0, 1, 2))
        self.stands(keeper, FLAG, (1, 0, 1, 1, 0), (RING, SHORE), 2)
        self.stands(twin, FLAG, (1, 0, 1, 0, 0), (RING,), 1)
        self.assertIs(twin == keeper, False)
        self.assertIs(twin != keeper, True)
        twin.shore((0, 1, 2))
        self.assertIs(twin == keeper, True)
        keeper.undo()
        keeper.undo()
        self.refused(NothingDone, keeper.undo)
        self.stands(twin, FLAG, (1, 0, 1, 1, 0), (RING, SHORE), 2)
        twin.play(())
        self.stands(twin, FLAG, (1, 0, 1, 1, 0), (RING, SHORE), 3)

    def test_of_a_new_one_and_of_twins(self):
        keeper = Keeper(ALONE, ())
        twin = keeper.twin().twin()
        self.stands(twin, ALONE, (), (), 0)
        self.refused(NothingDone, twin.undo)
        twin.play(())
        self.stands(keeper, ALONE, (), (), 0)
        self.stands(twin.twin(), ALONE, (), (), 1)


class Like(Kept):
    def like(self, one, other, wanted):
        self.assertIs(one == other, wanted)
        self.assertIs(other == one, wanted)
        self.assertIs(one != other, not wanted)
        self.assertIs(other != one, not wanted)

    def test_of_the_same_plan_and_signing_whatever_was_done(self):
        one, other = Keeper(TWINS, (0, 1)), Keeper(TWINS, (0, 1))
        self.like(one, one, True)
        self.like(one, other, True)
        one.ring((0, 1))
        self.like(one, other, False)
        one.ring((0, 1))
        self.like(one, other, True)
        one.play(())
        self.like(one, other, True)
        other.play((("ring", (0, 1)),))
        self.like(one, other, False)
        self.like(other, Keeper(TWINS, (1, 0)), True)

    def test_of_other_plans(self):
        self.like(Keeper(TRIANGLE, (0, 0, 0)), Keeper(helper.TRIPLETS, (0, 0, 0)), False)
        self.like(Keeper(PATH, (0, 0)), Keeper(TWINS, (0, 0)), False)
        self.like(Keeper(PATH, (0, 0)), Keeper((3, ((0, 1), (0, 2))), (0, 0)), False)
        self.like(Keeper(ALONE, ()), Keeper(PAIR, (0,)), False)

    def test_to_nothing_else(self):
        keeper = Keeper(PAIR, (0,))
        for thing in helper.odd_things() + [(PAIR, (0,)), [PAIR, (0,)], repr(keeper), PAIR, Keeper, object()]:
            self.like(keeper, thing, False)
        self.assertIs(keeper in [(0,), PAIR, None], False)
        self.assertIs(keeper in [None, Keeper(PAIR, (0,))], True)

    def test_words_are_so_whatever_the_numbers(self):
        self.just(str(Keeper(ALONE, ())), "Keeper(1 towns, 0 turns)")
        keeper = Keeper(PAIR, (0,))
        keeper.shore((0,))
        self.just(repr(keeper), "Keeper(2 towns, 1 turns)")
        keeper = Keeper(TRIANGLE, (0, 1, 0))
        keeper.play((("ring", (0, 1, 2)),) * 2)
        keeper.play(())
        self.just(repr(keeper), "Keeper(3 towns, 2 turns)")

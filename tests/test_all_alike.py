"""Points 2, 3 and 4, for all functions alike: what is handed in, by what name, and what is refused."""

from copy import deepcopy
from inspect import signature
from itertools import permutations
from time import process_time

from ringshores import (both, called, counts, desk, fewest, keeper, names, plans, rings, shores, split,
                        texts, turns, wishes)
from ringshores.errors import (NoNumbers, NoOrder, NoPlan, NoRow, NoSigning, NoStreet, NoText, NoTown,
                               NoTurn, NoWalk, NoWishes, NoWord, ShoreError)
from tests import helper
from tests.helper import Case

PLAN = helper.FLAG
SIGNING = helper.FLAG_SIGNING
TURN = ("shore", (0, 1, 2, 3))
ROW = (("shore", (0, 1, 2)), ("ring", (0, 1, 2)))
BEHIND = (1, 0, 1, 1, 0)
RING_BEHIND = (1, 0, 1, 0, 0)
SHORE_BEHIND = (0, 1, 0, 1, 0)
WALK = (3, (3, 1, 0))
RING_ROW = ("row", (("ring", (0, 1, 2)),))
SHORE_ROW = ("row", (("shore", (0, 1, 2)),))
NUMBERS = (1, 1, 2, 1, 0)
WISHES = ((0, None, None, None, None), (None, 1, 1, 1, 1))
GRANTED = ("signing", (0, 1, 0, 1, 1))
TEXT = "5 0>1 2>0 1>2 2>3 3>4"
ORDER = (4, 3, 2, 1, 0)
CALLED = ((5, ((0, 1), (1, 2), (2, 3), (2, 4), (3, 4))), (1, 1, 1, 0, 1))

# Where each function of the interface stands.
HOMES = {
    plans: ["is_plan", "is_signing", "outs", "come_to"],
    turns: ["rings_of", "shores_of", "turned", "behind", "is_row", "back", "rings_first"],
    split: ["holder", "shows_holder", "in_rings"],
    rings: ["by_rings", "shows_by_rings"],
    shores: ["lead", "by_shores", "shows_by_shores", "heights"],
    both: ["sweeps", "by_both", "shows_by_both"],
    names: ["rooted", "name_of", "name_by", "least_times"],
    counts: ["how_many_lots", "how_many_kinds", "how_many", "how_many_without"],
    wishes: ["grant", "shows_grant"],
    fewest: ["fewest", "how_many_fewest", "levels"],
    called: ["turned_about", "called"],
    texts: ["signing_text", "row_text", "read_signing"],
}

# Each function, what is handed in by its names and in their order, what is told, and the
# refusals in the order of the names, None where there is none.
CALLS = [
    (plans.is_plan, {"thing": PLAN}, True, [None]),
    (plans.is_signing, {"plan": PLAN, "thing": SIGNING}, True, [NoPlan, None]),
    (plans.outs, {"plan": PLAN, "signing": SIGNING}, (1, 1, 2, 1, 0), [NoPlan, NoSigning]),
    (plans.come_to, {"plan": PLAN, "signing": SIGNING, "town": 3}, (3, 4),
     [NoPlan, NoSigning, NoTown]),
    (turns.rings_of, {"plan": PLAN, "signing": SIGNING}, ((0, 1, 2),), [NoPlan, NoSigning]),
    (turns.shores_of, {"plan": PLAN, "signing": SIGNING},
     ((0, 1, 2), (0, 1, 2, 3)), [NoPlan, NoSigning]),
    (turns.turned, {"plan": PLAN, "signing": SIGNING, "turn": TURN}, (0, 1, 0, 0, 1),
     [NoPlan, NoSigning, NoTurn]),
    (turns.behind, {"plan": PLAN, "signing": SIGNING, "row": ROW}, (1, 0, 1, 1, 0),
     [NoPlan, NoSigning, NoRow]),
    (turns.is_row, {"plan": PLAN, "signing": SIGNING, "thing": ROW}, True,
     [NoPlan, NoSigning, None]),
    (turns.back, {"plan": PLAN, "signing": SIGNING, "row": ROW},
     (("ring", (0, 1, 2)), ("shore", (3, 4))), [NoPlan, NoSigning, NoRow]),
    (turns.rings_first, {"plan": PLAN, "signing": SIGNING, "row": ROW},
     (("ring", (0, 1, 2)), ("shore", (0, 1, 2))), [NoPlan, NoSigning, NoRow]),
    (split.holder, {"plan": PLAN, "signing": SIGNING, "street": 1}, ("ring", (0, 1, 2)),
     [NoPlan, NoSigning, NoStreet]),
    (split.shows_holder, {"plan": PLAN, "signing": SIGNING, "street": 4, "thing": TURN}, True,
     [NoPlan, NoSigning, NoStreet, None]),
    (split.in_rings, {"plan": PLAN, "signing": SIGNING}, (0, 1, 2), [NoPlan, NoSigning]),
    (rings.by_rings, {"plan": PLAN, "one": SIGNING, "other": SHORE_BEHIND}, ("town", 2),
     [NoPlan, NoSigning, NoSigning]),
    (rings.shows_by_rings,
     {"plan": PLAN, "one": SIGNING, "other": RING_BEHIND, "thing": RING_ROW}, True,
     [NoPlan, NoSigning, NoSigning, None]),
    (shores.lead, {"plan": PLAN, "signing": SIGNING, "walk": WALK}, 1,
     [NoPlan, NoSigning, NoWalk]),
    # Which row or walk is told isn't promised: that it is one is tested where the others are.
    (shores.by_shores, {"plan": PLAN, "one": SIGNING, "other": RING_BEHIND},
     shores.by_shores(PLAN, SIGNING, RING_BEHIND), [NoPlan, NoSigning, NoSigning]),
    (shores.shows_by_shores,
     {"plan": PLAN, "one": SIGNING, "other": SHORE_BEHIND, "thing": SHORE_ROW}, True,
     [NoPlan, NoSigning, NoSigning, None]),
    (shores.heights, {"plan": PLAN, "one": SIGNING, "other": SHORE_BEHIND}, (0, 0, 0, 1, 1),
     [NoPlan, NoSigning, NoSigning]),
    (both.sweeps, {"plan": PLAN, "one": SIGNING, "other": BEHIND}, (1, 1, 1, 0, 0),
     [NoPlan, NoSigning, NoSigning]),
    (both.by_both, {"plan": PLAN, "one": SIGNING, "other": BEHIND},
     both.by_both(PLAN, SIGNING, BEHIND), [NoPlan, NoSigning, NoSigning]),
    (both.shows_by_both,
     {"plan": PLAN, "one": SIGNING, "other": BEHIND, "thing": ("row", ROW)}, True,
     [NoPlan, NoSigning, NoSigning, None]),
    (names.rooted, {"plan": PLAN, "signing": SIGNING, "root": 3},
     ((("shore", (0, 1, 2)),), SHORE_BEHIND), [NoPlan, NoSigning, NoTown]),
    (names.name_of, {"plan": PLAN, "signing": SIGNING, "root": 3}, (1, 1, 1, 2, 0),
     [NoPlan, NoSigning, NoTown]),
    (names.name_by, {"plan": PLAN, "numbers": NUMBERS, "root": 3}, (1, 1, 1, 2, 0),
     [NoPlan, NoNumbers, NoTown]),
    (names.least_times, {"plan": PLAN, "one": SIGNING, "other": (0, 0, 0, 1, 0)}, 3,
     [NoPlan, NoSigning, NoSigning]),
    (counts.how_many_lots, {"plan": PLAN, "word": "forests"}, 28, [NoPlan, NoWord]),
    (counts.how_many_kinds, {"plan": PLAN, "way": "shores"}, 4, [NoPlan, NoWord]),
    (counts.how_many, {"plan": PLAN, "signing": SIGNING, "way": "both"}, 8,
     [NoPlan, NoSigning, NoWord]),
    (counts.how_many_without, {"plan": PLAN, "word": "rings"}, 24, [NoPlan, NoWord]),
    (wishes.grant, {"plan": PLAN, "wishes": WISHES}, GRANTED, [NoPlan, NoWishes]),
    (wishes.shows_grant, {"plan": PLAN, "wishes": WISHES, "thing": GRANTED}, True,
     [NoPlan, NoWishes, None]),
    (fewest.fewest, {"plan": PLAN, "one": SIGNING, "other": BEHIND, "way": "both"},
     (("ring", (0, 1, 2)), ("shore", (0, 1, 2))), [NoPlan, NoSigning, NoSigning, NoWord]),
    (fewest.how_many_fewest, {"plan": PLAN, "one": SIGNING, "other": BEHIND, "way": "both"}, 2,
     [NoPlan, NoSigning, NoSigning, NoWord]),
    (fewest.levels, {"plan": PLAN, "signing": SIGNING, "way": "both"}, (1, 3, 3, 1),
     [NoPlan, NoSigning, NoWord]),
    (called.turned_about, {"plan": PLAN, "signing": SIGNING}, (1, 0, 1, 1, 1), [NoPlan, NoSigning]),
    (called.called, {"plan": PLAN, "signing": SIGNING, "order": ORDER}, CALLED,
     [NoPlan, NoSigning, NoOrder]),
    (texts.signing_text, {"plan": PLAN, "signing": SIGNING}, TEXT, [NoPlan, NoSigning]),
    (texts.row_text, {"plan": PLAN, "row": ROW}, "shore 0 1 2, ring 0 1 2", [NoPlan, NoRow]),
    (texts.read_signing, {"text": TEXT}, (PLAN, SIGNING), [NoText]),
]

WRONG = [None, False, True, -1, 9999999999999, "", "x" * 600, [], {}, [0], {0: [1]}, ([], {}),
         helper.deep(8), (0,) * 2999, [PLAN, SIGNING], (PLAN, SIGNING), ("ring", {}), ([0], "ring")]


class Interface(Case):
    def test_each_function_has_the_names_told(self):
        for call, given, _, _ in CALLS:
            self.assertEqual(list(signature(call).parameters), list(given))

    def test_each_function_is_asked_here_and_stands_in_its_file(self):
        asked = [call for call, _, _, _ in CALLS]
        for home, names in HOMES.items():
            for name in names:
                self.assertIn(getattr(home, name), asked)
                self.assertEqual(getattr(home, name).__module__, home.__name__)
                self.assertEqual(getattr(home, name).__name__, name)
        self.assertEqual(len(asked), sum(len(names) for names in HOMES.values()))

    def test_no_name_may_be_left_out(self):
        for call, given, _, _ in CALLS:
            with self.assertRaises(TypeError):
                call(*list(given.values())[:-1])

    def test_by_places(self):
        for call, given, wanted, _ in CALLS:
            self.just(call(*given.values()), wanted, call.__name__)

    def test_by_names_in_any_order(self):
        for call, given, wanted, _ in CALLS:
            for names in permutations(given):
                self.just(call(**{name: given[name] for name in names}), wanted, call.__name__)

    def test_some_by_places_and_the_rest_by_names(self):
        for call, given, wanted, _ in CALLS:
            for many in range(len(given)):
                rest = dict(list(given.items())[many:])
                self.just(call(*list(given.values())[:many], **rest), wanted, call.__name__)


class Nothing(Case):
    def test_the_same_asked_again_has_the_same_answer(self):
        for call, given, wanted, _ in CALLS:
            for _ in range(3):
                self.just(call(**deepcopy(given)), wanted)

    def test_what_is_asked_between_changes_nothing(self):
        for call, given, wanted, refusals in CALLS:
            for other, others, _, _ in CALLS:
                other(*others.values())
            for wrong in WRONG:
                if refusals[-1] is not None:
                    self.refused(refusals[-1], call, *list(given.values())[:-1], wrong)
            self.just(call(*given.values()), wanted)

    def test_what_is_handed_in_is_afterwards_as_it_was(self):
        for call, given, _, _ in CALLS:
            before = repr(given)
            call(**given)
            self.assertEqual(repr(given), before)

    def test_what_is_refused_is_afterwards_as_it_was(self):
        for call, given, _, _ in CALLS:
            for name in given:
                for thing in WRONG + helper.odd_things():
                    changed = {**given, name: deepcopy(thing)}
                    try:
                        call(**changed)
                    except ShoreError:
                        pass
                    self.just(changed[name], thing)


class Refusals(Case):
    def test_each_by_its_own_class(self):
        for call, given, _, refusals in CALLS:
            for name, refusal in zip(given, refusals):
                for wrong in WRONG:
                    changed = {**given, name: wrong}
                    if refusal is None:
                        self.just(call(**changed), False)
                    else:
                        self.refused(refusal, call, **changed)

    def test_of_several_the_first_one(self):
        for call, given, _, refusals in CALLS:
            for first, refusal in enumerate(refusals):
                if refusal is None:
                    continue
                for wrong in WRONG:
                    for place in range(first, len(given)):
                        changed = list(given.values())
                        changed[first] = wrong
                        changed[place] = wrong
                        self.refused(refusal, call, *changed)
                    changed[first:] = [wrong] * (len(given) - first)
                    self.refused(refusal, call, *changed)

    def test_a_signing_of_another_plan(self):
        for call, given, _, refusals in CALLS:
            if len(given) > 1 and refusals[1] is NoSigning:
                rest = list(given.values())[2:]
                self.refused(NoSigning, call, PLAN, SIGNING[1:], *rest)
                self.refused(NoSigning, call, helper.PRISM, SIGNING, *rest)
                self.refused(NoPlan, call, (5, PLAN[1][::-1]), SIGNING, *rest)
            if len(given) > 2 and refusals[2] is NoSigning:
                rest = list(given.values())[3:]
                self.refused(NoSigning, call, PLAN, SIGNING, SIGNING[1:], *rest)
                self.refused(NoSigning, call, PLAN, SIGNING, SIGNING + (0,), *rest)

    def test_towns_turns_and_rows_of_another_plan(self):
        self.refused(NoTown, plans.come_to, helper.PAIR, (0,), 2)
        self.refused(NoTurn, turns.turned, helper.PAIR, (0,), TURN)
        self.refused(NoRow, turns.behind, helper.PAIR, (0,), ROW)
        self.refused(NoRow, turns.back, helper.PAIR, (0,), ROW)
        self.refused(NoRow, turns.rings_first, helper.PAIR, (0,), ROW)
        self.refused(NoStreet, split.holder, helper.PAIR, (0,), 1)
        self.refused(NoStreet, split.shows_holder, helper.PAIR, (0,), 1, ("shore", (0,)))
        self.refused(NoWalk, shores.lead, helper.PAIR, (0,), WALK)
        self.refused(NoTown, names.rooted, helper.PAIR, (0,), 2)
        self.refused(NoTown, names.name_of, helper.PAIR, (0,), 2)
        self.refused(NoNumbers, names.name_by, helper.PAIR, NUMBERS, 0)
        self.refused(NoTown, names.name_by, helper.PAIR, (1, 0), 2)
        self.refused(NoOrder, called.called, helper.PAIR, (0,), ORDER)
        self.refused(NoRow, texts.row_text, helper.PAIR, ROW)
        self.refused(NoWishes, wishes.grant, helper.PAIR, WISHES)
        self.refused(NoWishes, wishes.shows_grant, helper.PAIR, WISHES, GRANTED)
        self.assertIs(wishes.shows_grant(helper.PAIR, ((None,), (1, 0)), GRANTED), False)
        self.assertIs(rings.shows_by_rings(helper.PAIR, (0,), (1,), ("town", 2)), False)
        self.assertIs(shores.shows_by_shores(helper.TWINS, (0, 1), (1, 0), ("walk",) + WALK), False)
        self.assertIs(both.shows_by_both(helper.TWINS, (0, 0), (0, 1), ("weights", 2, (0, 1, 0))),
                      False)


class Things(Case):
    def test_a_truth_stands_for_no_number(self):
        self.assertIs(plans.is_plan((True, ())), False)
        self.assertIs(plans.is_signing(helper.PAIR, (True,)), False)
        self.refused(NoPlan, plans.outs, (2, ((False, True),)), (0,))
        self.refused(NoSigning, plans.outs, helper.PAIR, (False,))
        self.refused(NoTown, plans.come_to, helper.PAIR, (0,), False)
        self.refused(NoTown, plans.come_to, helper.PAIR, (0,), True)
        self.refused(NoTurn, turns.turned, helper.TWINS, (0, 1), ("ring", (False, True)))
        self.refused(NoTurn, turns.turned, helper.PAIR, (0,), ("shore", (False,)))
        self.assertIs(turns.is_row(helper.PAIR, (0,), (("shore", (False,)),)), False)
        self.refused(NoStreet, split.holder, helper.PAIR, (0,), False)
        self.refused(NoWalk, shores.lead, helper.PAIR, (0,), (False, (0,)))
        self.refused(NoWalk, shores.lead, helper.PAIR, (0,), (0, (False,)))
        self.refused(NoSigning, both.sweeps, helper.PAIR, (0,), (True,))
        self.refused(NoTown, names.name_of, helper.PAIR, (0,), True)
        self.refused(NoNumbers, names.name_by, helper.PAIR, (True, False), 0)
        self.refused(NoOrder, called.called, helper.PAIR, (0,), (False, True))
        self.refused(NoRow, texts.row_text, helper.PAIR, (("shore", (False,)),))
        self.refused(NoSigning, keeper.Keeper, helper.PAIR, (False,))
        self.refused(NoTurn, keeper.Keeper(helper.PAIR, (0,)).shore, (False,))
        self.refused(NoWishes, wishes.grant, helper.PAIR, ((False,), (None, None)))
        self.refused(NoWishes, wishes.grant, helper.PAIR, ((None,), (True, None)))

    def test_numbers_of_thirteen_figures(self):
        for number in (9999999999999, -9999999999999):
            self.assertIs(plans.is_plan((number, ())), False)
            self.assertIs(plans.is_plan((2, ((0, number),))), False)
            self.assertIs(plans.is_signing(helper.PAIR, (number,)), False)
            self.refused(NoTown, plans.come_to, helper.PAIR, (0,), number)
            self.refused(NoTurn, turns.turned, helper.PAIR, (0,), ("shore", (number,)))

    def test_what_is_told_holds_numbers_and_no_truths(self):
        for plan in helper.SMALL_PLANS:
            for signing in helper.some_signings(plan, 8):
                told = [plans.outs(plan, signing), turns.rings_of(plan, signing),
                        turns.shores_of(plan, signing), plans.come_to(plan, signing, 0)]
                told += [turns.turned(plan, signing, turn)
                         for turn in helper.turns_told(plan, signing)]
                told += [split.holder(plan, signing, street) for street in range(len(signing))]
                told.append(split.in_rings(plan, signing))
                told += [call(plan, signing, 0) for call in (names.rooted, names.name_of)]
                told += [fewest.levels(plan, signing, way) for way in counts.WAYS]
                told.append(called.turned_about(plan, signing))
                told.append(called.called(plan, signing, tuple(range(plan[0]))[::-1]))
                told.append(texts.read_signing(texts.signing_text(plan, signing)))
                told.append(wishes.grant(plan, (signing, plans.outs(plan, signing))))
                for other in helper.some_signings(plan, 4):
                    told += [call(plan, signing, other)
                             for call in (rings.by_rings, shores.by_shores, both.by_both)]
                    told += [call(plan, signing, other) for call in (shores.heights, both.sweeps)
                             if call(plan, signing, other) is not None]
                for thing in told:
                    self.assertIs(type(thing), tuple)
                    self.assertNotIn("True", repr(thing))
                    self.assertNotIn("False", repr(thing))

    def test_what_was_told_may_be_handed_in_again(self):
        for plan in helper.SMALL_PLANS + helper.BIG_PLANS:
            for signing in helper.some_signings(plan, 8):
                for word, told in (("ring", turns.rings_of(plan, signing)),
                                   ("shore", turns.shores_of(plan, signing))):
                    for lot in told:
                        now = turns.turned(plan, signing, (word, lot))
                        self.assertIs(plans.is_signing(plan, now), True)
                        gone_back = turns.back(plan, signing, ((word, lot),))
                        self.just(turns.behind(plan, now, gone_back), signing)


class Time(Case):
    def test_six_towns_and_nine_streets_are_answered_in_reasonable_time(self):
        # All of it takes about ten seconds: the bound is far, for slow machines.
        before = process_time()
        for plan in helper.BIG_PLANS:
            for one, other in helper.some_pairs(plan, 5):
                for street in range(len(one)):
                    split.holder(plan, one, street)
                split.in_rings(plan, one)
                for call in (rings.by_rings, shores.by_shores, shores.heights, both.sweeps,
                             both.by_both):
                    call(plan, one, other)
                for way in counts.WAYS:
                    counts.how_many(plan, one, way)
                    fewest.fewest(plan, one, other, way)
                    fewest.how_many_fewest(plan, one, other, way)
                    fewest.levels(plan, one, way)
                for root in range(plan[0]):
                    names.rooted(plan, one, root)
                    names.name_of(plan, one, root)
                    names.name_by(plan, plans.outs(plan, one), root)
                names.least_times(plan, one, other)
                self.asks_a_desk(plan, one, other)
                wishes.grant(plan, (one, plans.outs(plan, other)))
            for word in counts.WAYS:
                counts.how_many_kinds(plan, word)
            for word in counts.WAYS[:2]:
                counts.how_many_without(plan, word)
        self.assertLess(process_time() - before, 60)

    def asks_a_desk(self, plan, one, other):
        asked = desk.Desk()
        asked.say("plan " + texts.signing_text(plan, one))
        for line in ("rings", "shores", "name 1", "kinds both", "far " + texts.signing_text(plan, other)):
            asked.say(line)

    def test_long_things_are_looked_at_in_reasonable_time(self):
        before = process_time()
        row = (("ring", (0, 4)),) * 998
        signing = (0, 0, 0, 0, 1, 1, 0, 0, 0)
        plan = helper.NINE_LIKE
        self.assertIs(rings.shows_by_rings(plan, signing, signing, ("row", row)), True)
        self.assertIs(both.shows_by_both(plan, signing, signing, ("row", row)), True)
        self.assertIs(shores.shows_by_shores(plan, signing, (1,) + signing[1:],
                                             ("walk", 0, (0, 8) * 1490)), True)
        self.just(shores.lead(plan, signing, (0, (0, 4) * 1490)), 2980)
        self.assertLess(process_time() - before, 30)

"""Point 121: a desk that is told lines."""

import re
from inspect import signature
from random import Random

from ringshores.counts import how_many_kinds
from ringshores.desk import Desk
from ringshores.errors import (NoLine, NoSigning, NoText, NothingDone, NoTown, NoTurn, NoWord, ShoreError)
from ringshores.fewest import fewest
from ringshores.names import name_of
from tests import helper
from tests.helper import BIG_PLANS, FLAG, FLAG_SIGNING, SMALL_PLANS, Case
from tests.test_texts import read_told, text_told, texts_like

NUMBER = "(?:0|[1-9][0-9]{0,11})"
SIGN = "[ -~\n]"
FORMS = [f"plan {SIGN}+", f"ring(?: {NUMBER})+", f"shore(?: {NUMBER})+", "undo", "show", "row", "outs",
         "rings", "shores", f"name {NUMBER}", "kinds [!-~\n]+", f"far {SIGN}+"]
BARE = ["undo", "show", "row", "outs", "rings", "shores"]
WITH_MORE = ["plan", "ring", "shore", "name", "kinds", "far"]


def far_told(plan, one, other):
    """How many turns lead there, all that are come to gone through."""
    far = 0
    met = {one}
    while other not in met:
        more = {there for now in met
                for there in helper.turned_all_told(plan, now, ("ring", "shore"))} | met
        if more == met:
            return None
        met = more
        far += 1
    return far


class Model:
    """What point 121 says of a desk, line by line: an answer, or the class of a refusal."""

    def __init__(self):
        self.plan, self.signing, self.done = (1, ()), (), []

    def say(self, line):
        if not isinstance(line, str) or not any(re.fullmatch(form, line) for form in FORMS):
            return NoLine
        word, _, rest = line.partition(" ")
        return getattr(self, "say_" + word)(rest)

    def say_plan(self, rest):
        told = read_told(rest)
        if told is None:
            return NoText
        self.plan, self.signing = told
        self.done = []
        return "ok"

    def say_undo(self, rest):
        if not self.done:
            return NothingDone
        self.done.pop()
        return "ok"

    def now(self):
        return self.done[-1][1] if self.done else self.signing

    def turn(self, word, rest):
        turn = (word, tuple(int(part) for part in rest.split(" ")))
        if not helper.is_turn_told(self.plan, self.now(), turn, (word,)):
            return NoTurn
        self.done.append((turn, helper.turned_told(self.plan, self.now(), turn)))
        return "ok"

    def say_ring(self, rest):
        return self.turn("ring", rest)

    def say_shore(self, rest):
        return self.turn("shore", rest)

    def say_show(self, rest):
        return text_told(self.plan, self.now())

    def say_row(self, rest):
        texts = [" ".join([word] + [str(number) for number in lot]) for (word, lot), _ in self.done]
        return ", ".join(texts) or "-"

    def say_outs(self, rest):
        return " ".join(str(out) for out in helper.outs_told(self.plan, self.now()))

    def say_rings(self, rest):
        return str(len(helper.rings_told(self.plan, self.now())))

    def say_shores(self, rest):
        return str(len(helper.shores_told(self.plan, self.now())))

    def say_name(self, rest):
        if int(rest) >= self.plan[0]:
            return NoTown
        return " ".join(str(out) for out in name_of(self.plan, self.now(), int(rest)))

    def say_kinds(self, rest):
        return str(how_many_kinds(self.plan, rest)) if rest in ("rings", "shores", "both") else NoWord

    def say_far(self, rest):
        told = read_told(rest)
        if told is None:
            return NoText
        if told[0] != self.plan:
            return NoSigning
        far = far_told(self.plan, self.now(), told[1])
        return "never" if far is None else str(far)


class Told(Case):
    def says(self, desk, line, wanted):
        """The desk answers a line as wanted, a text, or refuses it, by a class."""
        if isinstance(wanted, str):
            self.just(desk.say(line), wanted, repr(line))
        else:
            self.refused(wanted, desk.say, line)

    def kept_at(self, plan, signing):
        desk = Desk()
        self.says(desk, "plan " + text_told(plan, signing), "ok")
        return desk


class Lines(Told):
    def test_at_first(self):
        for line, wanted in (("show", "1"), ("row", "-"), ("outs", "0"), ("rings", "0"), ("shores", "0"),
                             ("name 0", "0"), ("kinds rings", "1"), ("kinds shores", "1"),
                             ("kinds both", "1"), ("far 1", "0"), ("undo", NothingDone), ("ring 0", NoTurn),
                             ("shore 0", NoTurn), ("name 1", NoTown), ("far 2 0>1", NoSigning)):
            self.says(Desk(), line, wanted)

    def test_by_names_and_places(self):
        self.just(Desk().say(line="show"), "1")
        self.assertEqual(list(signature(Desk).parameters), [])
        self.assertEqual(list(signature(vars(Desk)["say"]).parameters), ["self", "line"])
        self.assertEqual(Desk.__module__, "ringshores.desk")

    def test_by_hand(self):
        desk = Desk()
        for line, wanted in (("plan 5 0>1 2>0 1>2 2>3 3>4", "ok"), ("show", "5 0>1 2>0 1>2 2>3 3>4"),
                             ("row", "-"), ("outs", "1 1 2 1 0"), ("rings", "1"), ("shores", "2"),
                             ("name 3", "1 1 1 2 0"), ("kinds rings", "28"), ("kinds shores", "4"),
                             ("kinds both", "3"), ("far 5 1>0 0>2 2>1 3>2 3>4", "2"),
                             ("far 5 0>1 0>2 1>2 2>3 3>4", "never"), ("far 5 0>1 2>0 1>2 2>3 3>4", "0"),
                             ("shore 0 1 2", "ok"), ("ring 0 1 2", "ok"), ("show", "5 1>0 0>2 2>1 3>2 3>4"),
                             ("row", "shore 0 1 2, ring 0 1 2"), ("outs", "1 1 1 2 0"),
                             ("far 5 1>0 0>2 2>1 3>2 3>4", "0"), ("shore 0 1 2", NoTurn),
                             ("row", "shore 0 1 2, ring 0 1 2"), ("undo", "ok"), ("row", "shore 0 1 2"),
                             ("undo", "ok"), ("row", "-"), ("undo", NothingDone),
                             ("show", "5 0>1 2>0 1>2 2>3 3>4")):
            self.says(desk, line, wanted)

    def test_another_plan_has_a_new_keeper(self):
        desk = self.kept_at(FLAG, FLAG_SIGNING)
        self.says(desk, "ring 0 1 2", "ok")
        self.says(desk, "plan 5 0>1 2>0 1>2 2>3 3>4", "ok")
        self.says(desk, "row", "-")
        self.says(desk, "undo", NothingDone)
        self.says(desk, "plan 1", "ok")
        self.says(desk, "show", "1")

    def test_two_desks_have_a_keeper_each(self):
        one, other = Desk(), Desk()
        self.says(one, "plan 2 0>1", "ok")
        self.says(one, "shore 0", "ok")
        self.says(other, "show", "1")
        self.says(one, "show", "2 1>0")

    def test_a_signing_of_another_plan(self):
        desk = self.kept_at(helper.TRIANGLE, (0, 0, 0))
        for text in ("1", "2 0>1", "3 0>1 1>2", "3 0>1 0>2 1>2 1>2", "4 0>1 0>2 1>2 2>3", "3 0>1 0>1 1>2"):
            self.says(desk, "far " + text, NoSigning)
        self.says(desk, "far 3 0>1 0>2 2>1", "never")
        self.says(desk, "far 3 1>0 2>0 1>2", "1")

    def test_numbers_of_just_as_many_figures_as_are_let(self):
        desk = self.kept_at(FLAG, FLAG_SIGNING)
        for word, refusal in (("ring", NoTurn), ("shore", NoTurn), ("name", NoTown)):
            for number in ("1" * 12, "9" * 12, "1" + "0" * 11, "999999999999"):
                self.says(desk, word + " " + number, refusal)
            for number in ("1" * 13, "9" * 13, "1" + "0" * 12, "1" * 590, "01", "00", "000000000000", "+1",
                           "-1", "1.", "1_0", "0x1", "1e1", "one", "~"):
                self.says(desk, word + " " + number, NoLine)
        self.says(desk, "ring 0 1 " + "9" * 12, NoTurn)
        self.says(desk, "ring 0 1 " + "9" * 13, NoLine)

    def test_signs_that_are_no_figures(self):
        desk = self.kept_at(FLAG, FLAG_SIGNING)
        for sign in map(chr, [10, *range(32, 48), *range(58, 127)]):
            for line in (f"ring {sign}", f"shore {sign}", f"name {sign}", f"ring 0 1{sign}", f"name 1{sign}1",
                         f"ring 0 {sign}1", f"name {sign}1"):
                self.says(desk, line, NoLine)

    def test_lines_by_their_form(self):
        desk = self.kept_at(FLAG, FLAG_SIGNING)
        for word in BARE + WITH_MORE:
            for line in (word + " ", " " + word, word + "\n", word.upper(), word + word, word + "  ",
                         word + "x", "x" + word, word[:-1], word + ",", word + "\t", word.title()):
                # Behind `plan ` and `far ` a blank is a text that writes nothing.
                self.says(desk, line, NoText if line in ("plan  ", "far  ") else NoLine)
        for word in BARE:
            for rest in ("0", "-", "0 1", "x", word):
                self.says(desk, word + " " + rest, NoLine)
        for word in WITH_MORE:
            self.says(desk, word, NoLine)
        for word in ("ring", "shore", "name", "kinds"):
            for rest in (" 0", "0 ", "0  1", " both", "both ", "  "):
                self.says(desk, word + " " + rest, NoLine)
        for line in ("name 0 1", "name 0 0", "kinds rings shores", "kinds both both", "", " ", "0", "-",
                     "ring,0", "ring 0,1", "ring 0, 1", "ring 0 1 2\n", "name 0\n", "\nshow", "show row",
                     "ok", "never", "quit", "help", "ring (0,)", "rings 0", "play -", "twin", "plans 1"):
            self.says(desk, line, NoLine)
        self.says(desk, "show", "5 0>1 2>0 1>2 2>3 3>4")

    def test_words_that_are_no_way(self):
        desk = Desk()
        for way in ("ring", "Rings", "forests", "x", "0", "-", "both\n", "\n", "bo\nth", "rings,", "~" * 590):
            self.says(desk, "kinds " + way, NoWord)
        for way in ("", " ", " both", "both ", "bo th"):
            self.says(desk, "kinds " + way, NoLine)

    def test_texts_that_write_nothing(self):
        desk = self.kept_at(FLAG, FLAG_SIGNING)
        for text in (" ", "  ", "x", "0", "01", "1 ", " 1", "1\n", "\n", "2", "2  0>1", "2 0>1 ", "2 0>01", "7",
                     "plan 1", "-", "5 0>1 2>0 1>2 3>4 2>3", "2" + " 0>1" * 10, "9" * 590):
            self.says(desk, "plan " + text, NoText)
            self.says(desk, "far " + text, NoText)
        self.says(desk, "show", "5 0>1 2>0 1>2 2>3 3>4")

    def test_of_anything(self):
        desk = self.kept_at(FLAG, FLAG_SIGNING)
        for thing in helper.odd_things() + [("show",), ["show"], {"show": 0}, ("ring", (0, 1, 2)), "x " * 300]:
            before = repr(thing)
            self.says(desk, thing, NoLine)
            self.assertEqual(repr(thing), before)
        self.says(desk, "show", "5 0>1 2>0 1>2 2>3 3>4")
        self.says(desk, "row", "-")


class Sessions(Told):
    def test_lines_with_a_sign_otherwise(self):
        lines = ["show", "row", "undo", "ring 0 1 2", "shore 0 1", "name 3", "kinds both", "plan 1",
                 "plan 2 0>1", "far 5 0>1 2>0 1>2 2>3 3>4", "outs", "rings"]
        for line in lines:
            for other in texts_like(line):
                desk, model = self.kept_at(FLAG, FLAG_SIGNING), Model()
                model.say("plan 5 0>1 2>0 1>2 2>3 3>4")
                # A tab is no sign of anything.
                if "\t" not in other:
                    self.says(desk, other, model.say(other))
                    self.says(desk, "show", model.say("show"))
                    self.says(desk, "row", model.say("row"))

    def lines(self, chance, plans, model):
        """A line of each kind by chance, most of them such that something can be done."""
        kind = chance.randrange(12)
        lot = sorted(chance.sample(range(9), chance.randrange(1, 5)))
        turns = helper.turns_told(model.plan, model.now())
        if kind < 5 and turns:
            word, lot = chance.choice(turns)
            return " ".join([word] + [str(number) for number in lot])
        if kind == 5:
            return chance.choice(["ring", "shore"]) + "".join(f" {number}" for number in lot)
        if kind == 6:
            return "name " + str(chance.randrange(7))
        if kind == 7:
            return "kinds " + chance.choice(["rings", "shores", "both", "forests"])
        if kind == 8 and chance.randrange(4) == 0:
            plan = chance.choice(plans)
            return "plan " + text_told(plan, chance.choice(helper.signings_of(plan)))
        if kind == 9:
            plan = chance.choice([model.plan] * 3 + plans)
            return "far " + text_told(plan, chance.choice(helper.signings_of(plan)))
        return chance.choice(BARE + BARE + [" show", "row ", "", "plan 2"])

    def goes_on(self, seed, plans, many):
        chance, desk, model = Random(seed), Desk(), Model()
        met = set()
        every = helper.signings_of(plans[0])
        first = "plan " + text_told(plans[0], every[5 % len(every)])
        self.says(desk, first, model.say(first))
        for _ in range(many):
            line = self.lines(chance, plans, model)
            wanted = model.say(line)
            self.says(desk, line, wanted)
            met.add(wanted if not isinstance(wanted, str) else line.split(" ")[0])
            self.says(desk, "row", model.say("row"))
            self.says(desk, "show", model.say("show"))
        return met

    def test_long_ones(self):
        met = set()
        for seed in range(12):
            met |= self.goes_on(seed, SMALL_PLANS[seed:] + SMALL_PLANS[:seed], 120)
        self.assertLessEqual({"plan", "ring", "shore", "undo", "name", "kinds", "far", NoLine, NoText, NoTurn,
                              NoSigning, NoTown, NoWord, NothingDone}, met)

    def test_nine_streets(self):
        for seed, plan in enumerate(BIG_PLANS):
            self.goes_on(seed, [plan], 40)

    def test_far_is_as_many_turns_as_the_fewest(self):
        for plan in (FLAG, helper.KITE, helper.LOOSE_SIX, helper.NINE_LIKE):
            every = helper.some_signings(plan, 6)
            for one in every:
                desk = self.kept_at(plan, one)
                for other in every:
                    row = fewest(plan, one, other, "both")
                    self.says(desk, "far " + text_told(plan, other),
                              "never" if row is None else str(len(row)))

    def test_the_same_asked_again_has_the_same_answer(self):
        desk = self.kept_at(FLAG, FLAG_SIGNING)
        self.says(desk, "ring 0 1 2", "ok")
        asked = ("show", "row", "outs", "rings", "shores", "name 0", "kinds both",
                 "far 5 0>1 0>2 1>2 2>3 3>4", "far 5 0>1 2>0 1>2 3>2 3>4")
        told = [desk.say(line) for line in asked]
        for wrong in ("name 9", "kinds x", "far x", "far 1", "plan x", "ring 4", "shore 4", "x", None):
            with self.assertRaises(ShoreError):
                desk.say(wrong)
        self.just([desk.say(line) for line in asked], told)
        self.says(desk, "undo", "ok")
        self.says(desk, "undo", NothingDone)

    def test_a_row_of_many_turns(self):
        row, last = helper.walk_row(helper.LOOSE_SIX, (0, 1, 0, 1, 0, 0, 1, 0, 1), 60, lambda at: 3 * at + 1)
        desk = self.kept_at(helper.LOOSE_SIX, (0, 1, 0, 1, 0, 0, 1, 0, 1))
        for word, lot in row:
            self.says(desk, " ".join([word] + [str(number) for number in lot]), "ok")
        self.says(desk, "show", text_told(helper.LOOSE_SIX, last))
        self.assertEqual(len(desk.say("row").split(", ")), 60)
        for _ in row:
            self.says(desk, "undo", "ok")
        self.says(desk, "undo", NothingDone)
        self.says(desk, "show", text_told(helper.LOOSE_SIX, (0, 1, 0, 1, 0, 0, 1, 0, 1)))

"""Point 120: signings and rows written as texts, and signings read from texts."""

import re
from itertools import product

from ringshores.errors import NoPlan, NoRow, NoSigning, NoText
from ringshores.texts import read_signing, row_text, signing_text
from tests import helper
from tests.helper import (ALONE, BIG_PLANS, FLAG, FLAG_SIGNING, KITE, NINE_LIKE, PAIR, PATH, PRISM,
                          SMALL_PLANS, TRIANGLE, TRIPLETS, TWINS, Case)

NUMBER = "(?:0|[1-9][0-9]*)"
SIGNS = [" ", ">", "<", ",", "-", "+", "_", ".", "0", "1", "2", "5", "6", "9", "\n", "a", "\t", "~", "("]


def text_told(plan, signing):
    text = str(plan[0])
    for street in range(len(signing)):
        text += " " + ">".join(str(town) for town in helper.start_and_end(plan, signing, street))
    return text


def read_told(text):
    """The plan and signing by point 120's words, one by one; None of what writes none."""
    if not isinstance(text, str) or not re.fullmatch(f"{NUMBER}(?: {NUMBER}>{NUMBER})*", text):
        return None
    many = int(text.split(" ")[0])
    ends = [tuple(int(town) for town in word.split(">")) for word in text.split(" ")[1:]]
    streets = tuple(tuple(sorted(pair)) for pair in ends)
    if not 1 <= many <= 6 or len(streets) > 9 or list(streets) != sorted(streets):
        return None
    if any(one == other or other >= many for one, other in streets):
        return None
    if len(set(helper.pieces(many, streets))) != 1:
        return None
    return (many, streets), tuple(int(start > end) for start, end in ends)


def texts_like(text, signs=tuple(SIGNS)):
    """Texts with one sign otherwise, left out, twice or put in."""
    for at in range(len(text) + 1):
        for sign in signs:
            yield text[:at] + sign + text[at:]
            yield text[:at] + sign + text[at + 1:]
    for at in range(len(text)):
        yield text[:at] + text[at + 1:]
        yield text[:at] + text[at] + text[at:]


class SigningText(Case):
    def test_by_hand(self):
        self.just(signing_text(ALONE, ()), "1")
        self.just(signing_text(PAIR, (0,)), "2 0>1")
        self.just(signing_text(PAIR, (1,)), "2 1>0")
        self.just(signing_text(TRIANGLE, (0, 1, 0)), "3 0>1 2>0 1>2")
        self.just(signing_text(FLAG, FLAG_SIGNING), "5 0>1 2>0 1>2 2>3 3>4")
        self.just(signing_text(TRIPLETS, (0, 1, 0)), "2 0>1 1>0 0>1")
        self.just(signing_text(NINE_LIKE, (1,) * 9), "2" + " 1>0" * 9)
        self.just(signing_text(helper.STAR, (0, 0, 0, 1, 1)), "6 0>3 1>3 2>3 4>3 5>3")

    def test_all_are_read_as_they_were(self):
        for plan in SMALL_PLANS + BIG_PLANS:
            for signing in helper.some_signings(plan, 128):
                text = signing_text(plan, signing)
                self.just(text, text_told(plan, signing))
                self.just(read_signing(text), (plan, signing))

    def test_by_names(self):
        self.just(signing_text(plan=PAIR, signing=(1,)), "2 1>0")
        self.just(signing_text(signing=(1,), plan=PAIR), "2 1>0")
        self.just(read_signing(text="2 1>0"), (PAIR, (1,)))
        self.just(row_text(row=(("ring", (0,)),), plan=PAIR), "ring 0")

    def test_refusals(self):
        self.refused(NoPlan, signing_text, (2, ()), None)
        for thing in ((), (0, 0), (True,), [0], None, "0", 0):
            self.refused(NoSigning, signing_text, PAIR, thing)


class RowText(Case):
    def test_by_hand(self):
        self.just(row_text(ALONE, ()), "-")
        self.just(row_text(FLAG, ()), "-")
        self.just(row_text(FLAG, (("ring", (0, 1, 2)),)), "ring 0 1 2")
        self.just(row_text(FLAG, (("ring", (0, 1, 2)), ("shore", (0, 1)))), "ring 0 1 2, shore 0 1")
        self.just(row_text(FLAG, (("shore", (4,)), ("shore", (4,)), ("ring", (3,)))),
                  "shore 4, shore 4, ring 3")
        self.just(row_text(NINE_LIKE, (("ring", tuple(range(9))),)), "ring 0 1 2 3 4 5 6 7 8")

    def test_each_turn_by_its_form_done_or_not(self):
        for plan in SMALL_PLANS + BIG_PLANS:
            streets = [lot for lot in helper.lots(len(plan[1])) if lot]
            towns = [lot for lot in helper.lots(plan[0]) if 0 < len(lot) < plan[0]]
            for word, lots in (("ring", streets), ("shore", towns)):
                for lot in lots:
                    told = word + "".join(" " + str(number) for number in lot)
                    self.just(row_text(plan, ((word, lot),)), told)
                    self.just(row_text(plan, ((word, lot),) * 3), ", ".join([told] * 3))

    def test_rows_of_forty_turns(self):
        for plan in (FLAG, KITE, PRISM):
            row, _ = helper.walk_row(plan, helper.signings_of(plan)[5], 40, lambda at: 3 * at + 2)
            words = row_text(plan, row).split(", ")
            self.assertEqual(len(words), len(row))
            for (word, lot), told in zip(row, words):
                self.assertEqual(told.split(" "), [word] + [str(number) for number in lot])

    def test_what_is_no_tuple_of_turns(self):
        for row in (None, 0, True, "", "-", "ring 0", [], {}, ((),), (None,), ("ring", (0,)), [("ring", (0,))],
                    (["ring", (0,)],), (("ring", [0]),), (("ring", ()),), (("shore", ()),), (("shore", (0, 1)),),
                    (("ring", (1,)),), (("ring", (-1,)),), (("shore", (2,)),), (("shore", (True,)),),
                    (("ring", (False,)),), (("ring", (0, 0)),), (("rings", (0,)),), (("Ring", (0,)),),
                    (("ring", (0,), ()),), (("ring",),), (("ring", 0),), (("ring", None),), ((0, (0,)),),
                    (((0,), "ring"),), (("shore", (0,)), None), (("shore", (0,)), ("ring", ())),
                    {("ring", (0,)): 0}, (("ring", "0"),), (("shore", {0: 0}),)):
            self.refused(NoRow, row_text, PAIR, row)
            self.refused(NoPlan, row_text, (2, ()), row)
        self.refused(NoRow, row_text, TRIANGLE, (("ring", (1, 0)),))
        self.refused(NoRow, row_text, TRIANGLE, (("shore", (2, 1)),))
        self.refused(NoRow, row_text, TRIANGLE, (("shore", (0, 1, 2)),))
        self.refused(NoRow, row_text, TRIANGLE, (("ring", (0, 1, 2, 3)),))
        self.refused(NoRow, row_text, ALONE, (("shore", (0,)),))
        self.refused(NoRow, row_text, ALONE, (("ring", (0,)),))

    def test_anything(self):
        for thing in helper.odd_things():
            if repr(thing) not in ("()", "(('shore', (0,)),)"):
                self.refused(NoRow, row_text, PAIR, thing)
            if repr(thing) not in ("('ring', (0, 1))", "('shore', (0,))"):
                self.refused(NoRow, row_text, TWINS, (thing,))


class Reading(Case):
    def reads_right(self, text):
        wanted = read_told(text)
        if wanted is None:
            self.refused(NoText, read_signing, text)
        else:
            self.just(read_signing(text), wanted, repr(text))

    def test_by_hand(self):
        self.just(read_signing("1"), (ALONE, ()))
        self.just(read_signing("2 1>0"), (PAIR, (1,)))
        self.just(read_signing("3 0>1 2>0 1>2"), (TRIANGLE, (0, 1, 0)))
        self.just(read_signing("2 0>1 1>0 0>1"), (TRIPLETS, (0, 1, 0)))

    def test_what_writes_none(self):
        for text in ("", " ", "0", "2", "-1", "+1", "01", "1 ", " 1", "1\n", "\n1", "1.", "1,", "7", "10", "1 0>0",
                     "2 0>1 ", " 2 0>1", "2  0>1", "2 0>1  0>1", "2 0 >1", "2 0> 1", "2 0>01", "2 00>1",
                     "02 0>1", "2 0>1\n", "2\n0>1", "2\t0>1", "2 0<1", "2 0-1", "2 01", "2 0>", "2 >1", "2 >",
                     "2 0>2", "2 0>0", "2 0>>1", "2 0>1>0", "2,0>1", "2 0>1,1>0", "2 0>-1", "3 0>1",
                     "3 1>2 0>1", "3 0>1 1>2 0>2", "3 0>1 1>2 2>0", "3 0>2 0>1 1>2", "3 2>1 1>0", "4 0>1 2>3",
                     "2" + " 0>1" * 10, "6 0>1 0>2 0>3 0>4", "7 0>1 0>2 0>3 0>4 0>5 0>6", "3 0>1 1>3",
                     "10 0>1", "2 0>1 2 0>1", "two 0>1", "2 a>b", "-", "plan 1", "1 1", "2 0>1 1"):
            self.just(read_told(text), None)
            self.refused(NoText, read_signing, text)

    def test_of_anything(self):
        for thing in helper.odd_things() + [("1",), ["1"], {"1": "1"}, (1, ()), ((1, ()), ()), b"1"]:
            self.refused(NoText, read_signing, thing)
        for thing in ("x" * 600, "1" * 600, "0" * 600, "2" + " 0>1" * 149, ">" * 600, " " * 600,
                      "2 0>" + "1" * 596, "1" * 10000, "2 " + "9" * 10000 + ">1"):
            self.refused(NoText, read_signing, thing)

    def test_signs_that_are_no_figures(self):
        for sign in map(chr, [10, *range(32, 48), *range(58, 127)]):
            for text in (sign, "1" + sign, sign + "1", sign + " 0>1", "2 0>" + sign, "2 " + sign + ">1",
                         "2 0" + sign + "1" if sign != ">" else "2 0>>1", "2 0>1" + sign):
                self.refused(NoText, read_signing, text)

    def test_texts_of_signings_with_a_sign_otherwise(self):
        for plan, signing in ((ALONE, ()), (PAIR, (0,)), (TWINS, (1, 0)), (PATH, (0, 1)),
                              (TRIANGLE, (0, 1, 0)), (FLAG, FLAG_SIGNING), (KITE, (1, 0, 0, 1, 1)),
                              (PRISM, (0, 1, 1, 0, 1, 0, 0, 0, 1)), (NINE_LIKE, (1, 0) * 4 + (0,))):
            for text in texts_like(signing_text(plan, signing)):
                self.reads_right(text)

    def test_all_texts_of_few_words(self):
        words = ["0>1", "1>0", "0>2", "2>0", "1>2", "2>1", "1>1", "0", "", "1>3"]
        for many, size in product("0123", range(4)):
            for some in product(words, repeat=size):
                self.reads_right(" ".join((many,) + some))

    def test_streets_and_towns_up_to_the_most(self):
        for many in range(9):
            path = "".join(f" {town}>{town + 1}" for town in range(many - 1))
            self.reads_right(str(many) + path)
            for more in range(12):
                self.reads_right(str(many) + " 0>1" * more + path)

"""Point 100: rows of the fewest turns, how many there are, and levels."""

from itertools import permutations

from ringshores.errors import NoPlan, NoSigning, NoWord
from ringshores.fewest import fewest, how_many_fewest, levels
from ringshores.turns import behind
from tests import helper
from tests.helper import (ALONE, BIG_PLANS, BOW, FLAG, FLAG_SIGNING, KITE, NINE_LIKE, PAIR, PATH,
                          PRISM, SMALL_PLANS, STAR, TRIANGLE, TRIPLETS, TWINS, Case)

WORDS = {"rings": ("ring",), "shores": ("shore",), "both": ("ring", "shore")}


def rows_told(plan, one, words, most):
    """All rows of the words from a signing, for each length up to most those of each end, rising."""
    ends = [{one: [()]}]
    for _ in range(most):
        found = {}
        for signing, rows in ends[-1].items():
            for turn in helper.turns_told(plan, signing):
                if turn[0] in words:
                    there = helper.turned_told(plan, signing, turn)
                    found.setdefault(there, []).extend(row + (turn,) for row in rows)
        ends.append(found)
    return [{there: sorted(rows) for there, rows in found.items()} for found in ends]


def levels_told(plan, signing, words):
    """How many are new behind one turn more, again and again."""
    met = {signing}
    last = [signing]
    counts = []
    while last:
        counts.append(len(last))
        new = {other for now in last for other in helper.turned_all_told(plan, now, words)} - met
        met |= new
        last = sorted(new)
    return tuple(counts)


class Fewest(Case):
    def test_by_hand(self):
        for way in WORDS:
            self.just(fewest(ALONE, (), (), way), ())
            self.just(how_many_fewest(ALONE, (), (), way), 1)
            self.just(levels(ALONE, (), way), (1,))
        self.just(fewest(PAIR, (0,), (1,), "shores"), (("shore", (0,)),))
        self.just(fewest(PAIR, (0,), (1,), "rings"), None)
        self.just(how_many_fewest(PAIR, (0,), (1,), "rings"), 0)
        self.just(fewest(TWINS, (0, 1), (1, 0), "rings"), (("ring", (0, 1)),))
        self.just(fewest(TWINS, (0, 1), (1, 0), "shores"), None)
        self.just(fewest(TWINS, (0, 1), (1, 0), "both"), (("ring", (0, 1)),))
        self.just(fewest(TWINS, (0, 0), (0, 1), "both"), None)
        self.just(how_many_fewest(TWINS, (0, 0), (0, 1), "both"), 0)
        self.just(levels(PATH, (0, 0), "shores"), (1, 2, 1))
        self.just(levels(PATH, (0, 1), "shores"), (1, 3))
        self.just(levels(PATH, (0, 0), "rings"), (1,))
        self.just(levels(STAR, (0,) * 5, "both"), (1, 10, 21))

    def test_of_as_few_the_least(self):
        # The ring may be turned ahead of the shore, behind it, too: "ring" is the lesser word.
        ring, shore = ("ring", (0, 1, 2)), ("shore", (0, 1, 2))
        self.just(fewest(FLAG, FLAG_SIGNING, (1, 0, 1, 1, 0), "both"), (ring, shore))
        self.just(how_many_fewest(FLAG, FLAG_SIGNING, (1, 0, 1, 1, 0), "both"), 2)
        self.just(fewest(FLAG, FLAG_SIGNING, (1, 0, 1, 1, 0), "shores"), None)
        # Two bridges are turned about at once by no shore of theirs: the least town's one is ahead.
        self.just(fewest(PATH, (0, 0), (1, 1), "shores"), (("shore", (0,)), ("shore", (0, 1))))
        self.just(how_many_fewest(PATH, (0, 0), (1, 1), "shores"), 2)
        self.just(fewest(TRIPLETS, (0, 0, 1), (1, 0, 0), "rings"), (("ring", (0, 2)),))
        two = ("ring", (0, 5)), ("ring", (1, 6))
        one, other = (0, 0, 1, 1, 1, 1, 1, 1, 1), (1, 1, 1, 1, 1, 0, 0, 1, 1)
        self.just(fewest(NINE_LIKE, one, other, "rings"), two)
        self.just(how_many_fewest(NINE_LIKE, one, other, "rings"), 4)

    def test_two_equal_signings(self):
        for plan in SMALL_PLANS + BIG_PLANS:
            for signing in helper.some_signings(plan, 3):
                for way in WORDS:
                    self.just(fewest(plan, signing, signing, way), ())
                    self.just(how_many_fewest(plan, signing, signing, way), 1)

    def right_by_all_rows(self, plan, one, most):
        """All that fewest and how_many_fewest tell from one, against all rows of at most so many turns."""
        for way, words in WORDS.items():
            ends = rows_told(plan, one, words, most)
            led = helper.led_to_told(plan, one, words)
            for other in helper.signings_of(plan):
                lists = [found[other] for found in ends if other in found]
                if lists:
                    self.just(fewest(plan, one, other, way), lists[0][0])
                    self.just(how_many_fewest(plan, one, other, way), len(lists[0]))
                elif other not in led:
                    self.just(fewest(plan, one, other, way), None)
                    self.just(how_many_fewest(plan, one, other, way), 0)
                else:
                    self.assertGreater(len(fewest(plan, one, other, way)), most)

    def test_against_all_rows(self):
        for plan in SMALL_PLANS[:8] + [FLAG]:
            for one in helper.some_signings(plan, 8):
                self.right_by_all_rows(plan, one, 3)
        for plan in (KITE, helper.ALL_FOUR, BOW):
            for one in helper.some_signings(plan, 4):
                self.right_by_all_rows(plan, one, 3)
        self.right_by_all_rows(STAR, (0, 1, 0, 0, 1), 2)

    def test_against_all_rows_of_nine_streets(self):
        for plan in (PRISM, helper.CROSSES, helper.LOOSE_SIX):
            self.right_by_all_rows(plan, (0, 1, 0, 0, 1, 1, 0, 0, 1), 2)

    def test_rows_lead_there_and_no_fewer_do(self):
        for plan in BIG_PLANS:
            for one in helper.some_signings(plan, 3):
                for way, words in WORDS.items():
                    for other in sorted(helper.led_to_told(plan, one, words))[::9]:
                        row = fewest(plan, one, other, way)
                        self.just(behind(plan, one, row), other)
                        self.assertLessEqual({turn[0] for turn in row}, set(words))
                        self.assertEqual(len(row), self.far_told(plan, one, other, words))

    def far_told(self, plan, one, other, words):
        far = 0
        met = {one}
        while other not in met:
            met |= {there for now in met for there in helper.turned_all_told(plan, now, words)}
            far += 1
        return far

    def test_a_way_by_which_nothing_leads_there(self):
        for plan in SMALL_PLANS:
            for one, other in helper.some_pairs(plan, 6):
                for way, words in WORDS.items():
                    if other not in helper.led_to_told(plan, one, words):
                        self.just(fewest(plan, one, other, way), None)
                        self.just(how_many_fewest(plan, one, other, way), 0)

    def test_back_are_as_many(self):
        for plan in (FLAG, KITE, helper.LOOSE_SIX):
            for one in helper.some_signings(plan, 3):
                for way, words in WORDS.items():
                    for other in sorted(helper.led_to_told(plan, one, words))[:6]:
                        self.just(how_many_fewest(plan, one, other, way),
                                  how_many_fewest(plan, other, one, way))
                        self.assertEqual(len(fewest(plan, one, other, way)),
                                         len(fewest(plan, other, one, way)))

    def test_refusals(self):
        for call in (fewest, how_many_fewest):
            for word in ("ring", "shore", "", "Both", "forests", None, True, 0, (), [], {}, ("both",)):
                self.refused(NoWord, call, PATH, (0, 0), (0, 1), word)
                self.refused(NoWord, call, PATH, (0, 0), (0, 0), word)
                self.refused(NoSigning, call, PATH, (0, 0), (0,), word)
                self.refused(NoSigning, call, PATH, (0, 0, 0), (0, 0), word)
                self.refused(NoPlan, call, (3, ((0, 1),)), (0,), (0,), word)


class Levels(Case):
    def test_all_signings_of_small_plans(self):
        for plan in SMALL_PLANS:
            for signing in helper.signings_of(plan):
                for way, words in WORDS.items():
                    self.just(levels(plan, signing, way), levels_told(plan, signing, words))

    def test_nine_streets(self):
        for plan in BIG_PLANS:
            for signing in helper.some_signings(plan, 4):
                for way, words in WORDS.items():
                    self.just(levels(plan, signing, way), levels_told(plan, signing, words))

    def test_levels_and_fewest_tell_the_same(self):
        for plan, one in ((FLAG, FLAG_SIGNING), (KITE, (0, 0, 0, 1, 0)), (TRIANGLE, (0, 1, 0))):
            for way in WORDS:
                rows = [fewest(plan, one, other, way) for other in helper.signings_of(plan)]
                far = [len(row) for row in rows if row is not None]
                self.just(levels(plan, one, way), tuple(far.count(many) for many in range(max(far) + 1)))

    def test_refusals(self):
        for thing in helper.odd_things():
            self.refused(NoWord, levels, FLAG, FLAG_SIGNING, thing)
            self.refused(NoWord, fewest, FLAG, FLAG_SIGNING, FLAG_SIGNING, thing)
            self.refused(NoWord, how_many_fewest, FLAG, FLAG_SIGNING, FLAG_SIGNING, thing)
        self.refused(NoSigning, levels, FLAG, (0,) * 4, "none")
        self.refused(NoPlan, levels, (5, ()), (0,) * 4, "none")

    def test_ways_do_not_wait_for_each_other(self):
        asked = {way: levels(FLAG, FLAG_SIGNING, way) for way in WORDS}
        for order in permutations(WORDS):
            for way in order:
                self.just(levels(FLAG, FLAG_SIGNING, way), asked[way])

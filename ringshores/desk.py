"""A desk that keeps a keeper and answers lines."""

from ringshores.counts import how_many_kinds
from ringshores.errors import NoLine, NoSigning
from ringshores.fewest import fewest
from ringshores.keeper import Keeper
from ringshores.names import name_of
from ringshores.texts import blanked, read_signing, row_text, signing_text
from ringshores.turns import rings_of, shores_of

MOST_FIGURES = 12
FIGURES = "0123456789"
DEEDS = ("plan", "ring", "shore", "undo")
# The words that are whole lines.
ALONE = ("undo", "show", "row", "outs", "rings", "shores")


def is_number_text(word):
    """Whether a word is a number in figures, without a nought ahead, of no more figures than are let."""
    if not 1 <= len(word) <= MOST_FIGURES or not all([sign in FIGURES for sign in word]):
        return False
    return word == "0" or word[0] != "0"


def has_form(word, rest):
    """Whether a line of a word, a blank and the rest has the form of one that a desk takes."""
    if word in ("plan", "far"):
        return rest != ""
    if word in ("ring", "shore"):
        return all([is_number_text(part) for part in rest.split(" ")])
    if word == "name":
        return is_number_text(rest)
    return word == "kinds" and rest != "" and " " not in rest


def parted(line):
    """(word, rest) of a line, of anything: its first word, and what stands behind the blank, "" of a word alone."""
    if not isinstance(line, str):
        raise NoLine()
    if line in ALONE:
        return line, ""
    word, _, rest = line.partition(" ")
    if not has_form(word, rest):
        raise NoLine()
    return word, rest


def numbers_of(rest):
    """The tuple of the numbers that are written with blanks between."""
    return tuple([int(part) for part in rest.split(" ")])


def far_text(plan, signing, text):
    """How many turns at the least lead by both to the signing that a text writes, or "never"."""
    there, other = read_signing(text)
    if there != plan:
        raise NoSigning()
    row = fewest(plan, signing, other, "both")
    return "never" if row is None else str(len(row))


class Desk:
    """Keeps a keeper, and answers the lines that are told to it."""

    def __init__(self):
        self._plan = (1, ())
        self._keeper = Keeper(self._plan, ())

    def say(self, line):
        """The answer to a line, of anything."""
        word, rest = parted(line)
        if word in DEEDS:
            self._do(word, rest)
            return "ok"
        return self._tell(word, rest)

    def _do(self, word, rest):
        """Do what a line of a word and the rest asks for."""
        if word == "plan":
            plan, signing = read_signing(rest)
            self._plan = plan
            self._keeper = Keeper(plan, signing)
        elif word == "ring":
            self._keeper.ring(numbers_of(rest))
        elif word == "shore":
            self._keeper.shore(numbers_of(rest))
        else:
            self._keeper.undo()

    def _tell(self, word, rest):
        """The answer to a line of a word and the rest that changes nothing."""
        signing = self._keeper.signing()
        if word == "show":
            return signing_text(self._plan, signing)
        if word == "row":
            return row_text(self._plan, self._keeper.row())
        if word == "outs":
            return blanked(self._keeper.outs())
        if word == "rings":
            return str(len(rings_of(self._plan, signing)))
        if word == "shores":
            return str(len(shores_of(self._plan, signing)))
        if word == "name":
            return blanked(name_of(self._plan, signing, int(rest)))
        if word == "kinds":
            return str(how_many_kinds(self._plan, rest))
        return far_text(self._plan, signing, rest)

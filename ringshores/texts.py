"""Signings and rows written as texts, and signings read from them."""

from ringshores.errors import NoRow, NoText
from ringshores.plans import is_pair, is_plan, need_plan, need_signing, paths_of
from ringshores.turns import is_part, is_rising

# All numbers of a signing's text are of one figure: six towns at the most.
FIGURES = "0123456"


def blanked(numbers):
    """Numbers in figures, with blanks between."""
    return " ".join([str(number) for number in numbers])


def signing_text(plan, signing):
    """The text of a signing: how many towns, and each street as it leads."""
    need_signing(plan, signing)
    return " ".join([str(plan[0])] + [f"{start}>{end}" for start, end in paths_of(plan, signing)])


def has_form(plan, thing):
    """Whether thing, of anything, is a turn by its form, whether or not it can be done."""
    if not is_pair(thing):
        return False
    word, lot = thing
    if word == "ring":
        return is_rising(lot, len(plan[1])) and lot != ()
    return word == "shore" and is_part(lot, plan[0])


def row_text(plan, row):
    """The text of a row of turns, whether or not they can be done."""
    need_plan(plan)
    if not isinstance(row, tuple) or not all([has_form(plan, turn) for turn in row]):
        raise NoRow()
    if row == ():
        return "-"
    return ", ".join([f"{word} {blanked(lot)}" for word, lot in row])


def is_path_text(word):
    """Whether a word is two figures with > between."""
    return len(word) == 3 and word[0] in FIGURES and word[1] == ">" and word[2] in FIGURES


def read_words(words):
    """(plan, signing) by the words of a text that has the form of a signing's text."""
    paths = [(int(word[0]), int(word[2])) for word in words[1:]]
    streets = tuple([(min(path), max(path)) for path in paths])
    return (int(words[0]), streets), tuple([0 if start < end else 1 for start, end in paths])


def read_signing(text):
    """(plan, signing) that a text, of anything, writes just so."""
    if not isinstance(text, str):
        raise NoText()
    words = text.split(" ")
    if len(words[0]) != 1 or words[0] not in FIGURES or not all([is_path_text(word) for word in words[1:]]):
        raise NoText()
    plan, signing = read_words(words)
    if not is_plan(plan):
        raise NoText()
    return plan, signing

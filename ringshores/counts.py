"""How many lots of streets there are, how many kinds of signings, and how many signings in a kind."""

from ringshores.errors import NoWord
from ringshores.plans import hang_together, need_plan, need_signing, outs_of, signings_of
from ringshores.shores import lead_of, steps_from, streets_round
from ringshores.split import in_rings
from ringshores.turns import lots_of

LOTS = ("forests", "holding", "trees")
WAYS = ("rings", "shores", "both")
# There are as many kinds of signings by a way as lots of this word.
LOTS_BY_WAY = {"rings": "forests", "shores": "holding", "both": "trees"}


def need_word(word, words):
    """Refuse what is none of some words."""
    if word not in words:
        raise NoWord()


def have_no_round(many, streets):
    """Whether among the streets none lead round, whichever way they lead."""
    marks = list(range(many))
    for one, other in streets:
        if marks[one] == marks[other]:
            return False
        # Towns that hang together by the streets so far have one mark.
        marks = [marks[one] if mark == marks[other] else mark for mark in marks]
    return True


def is_lot(many, streets, word):
    """Whether streets between so many towns are a lot of the word."""
    if word != "holding" and not have_no_round(many, streets):
        return False
    return word == "forests" or hang_together(many, streets)


def lots_counted(plan, word):
    """How many lots of a word a plan has."""
    many, streets = plan
    lots = [[streets[street] for street in lot] for lot in lots_of(len(streets))]
    return len([lot for lot in lots if is_lot(many, lot, word)])


def how_many_lots(plan, word):
    """How many lots of streets there are of a word: "forests", "holding" or "trees"."""
    need_plan(plan)
    need_word(word, LOTS)
    return lots_counted(plan, word)


def how_many_kinds(plan, way):
    """How many kinds of signings there are by a way: "rings", "shores" or "both"."""
    need_plan(plan)
    need_word(way, WAYS)
    return lots_counted(plan, LOTS_BY_WAY[way])


def led_to_by_rings(plan, signing):
    """How many signings rings lead to from a signing."""
    wanted = outs_of(plan, signing)
    return len([other for other in signings_of(plan) if outs_of(plan, other) == wanted])


def leads_along(rounds, signing):
    """The lead in a signing of each round of some, given by its steps."""
    return [lead_of(signing, steps) for steps in rounds]


def led_to_by_shores(plan, signing):
    """How many signings shores lead to from a signing."""
    # Where along these the leads are like ones, they are so along each closed walk.
    rounds = [steps_from(plan, 0, streets_round(plan, street)) for street in range(len(plan[1]))]
    wanted = leads_along(rounds, signing)
    return len([other for other in signings_of(plan) if leads_along(rounds, other) == wanted])


def how_many(plan, signing, way):
    """How many signings a signing leads to by a way, itself too."""
    need_signing(plan, signing)
    need_word(way, WAYS)
    if way == "rings":
        return led_to_by_rings(plan, signing)
    if way == "shores":
        return led_to_by_shores(plan, signing)
    # Rings and shores never mind each other: each signing by the ones goes with each by the others.
    return led_to_by_rings(plan, signing) * led_to_by_shores(plan, signing)


def how_many_without(plan, word):
    """How many signings have no ring, of the word "rings", or no shore, of the word "shores"."""
    need_plan(plan)
    need_word(word, ("rings", "shores"))
    # No street lies in a ring where there is none, and each does where there is no shore.
    wanted = 0 if word == "rings" else len(plan[1])
    return len([signing for signing in signings_of(plan) if len(in_rings(plan, signing)) == wanted])

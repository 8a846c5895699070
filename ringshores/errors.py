"""The errors by which the program refuses what is handed in."""


class ShoreError(ValueError):
    """What all refusals of the program have in common."""


class NoPlan(ShoreError):
    """What is handed in is no plan."""


class NoSigning(ShoreError):
    """What is handed in is no signing of the plan."""


class NoTown(ShoreError):
    """What is handed in is no town of the plan."""


class NoStreet(ShoreError):
    """What is handed in is no street of the plan."""


class NoTurn(ShoreError):
    """What is handed in is no turn that can be done."""


class NoRow(ShoreError):
    """What is handed in is no row of turns that can be done."""


class NoWalk(ShoreError):
    """What is handed in is no walk of the plan."""


class NoWord(ShoreError):
    """What is handed in is none of the words that are asked for."""


class NoWishes(ShoreError):
    """What is handed in is no wishes of the plan."""


class NoNumbers(ShoreError):
    """What is handed in is no numbers of the plan."""


class NoOrder(ShoreError):
    """What is handed in is no order of the plan's towns."""


class NothingDone(ShoreError):
    """There is no deed that could be undone."""


class NoText(ShoreError):
    """What is handed in is no text that writes a signing."""


class NoLine(ShoreError):
    """What is handed in is no line that a desk takes."""

"""A keeper of a signing, whose deeds are turns and rows of turns that can be undone."""

from ringshores.errors import NothingDone
from ringshores.plans import need_signing, outs_of
from ringshores.turns import behind, turned


class Keeper:
    """Keeps a signing of a plan, and what was done to it."""

    def __init__(self, plan, signing):
        need_signing(plan, signing)
        self._plan = plan
        self._now = signing
        # Of each deed that stands the pair of its row of turns and of the signing ahead of it.
        self._deeds = []

    def _do(self, row, there):
        """Keep a deed, a row of turns that leads there."""
        self._deeds.append((row, self._now))
        self._now = there

    def ring(self, streets):
        """Turn a ring."""
        turn = ("ring", streets)
        self._do((turn,), turned(self._plan, self._now, turn))

    def shore(self, towns):
        """Turn a shore."""
        turn = ("shore", towns)
        self._do((turn,), turned(self._plan, self._now, turn))

    def play(self, row):
        """Do all turns of a row, as one deed."""
        self._do(row, behind(self._plan, self._now, row))

    def undo(self):
        """Undo the last deed that stands."""
        if not self._deeds:
            raise NothingDone()
        self._now = self._deeds.pop()[1]

    def signing(self):
        """The signing that is kept."""
        return self._now

    def row(self):
        """All turns done that stand, one behind the other."""
        return tuple([turn for row, _ in self._deeds for turn in row])

    def outs(self):
        """The outs of the signing that is kept."""
        return outs_of(self._plan, self._now)

    def twin(self):
        """Another keeper of the same signing, with the same deeds that can be undone."""
        other = Keeper(self._plan, self._now)
        other._deeds = list(self._deeds)
        return other

    def __len__(self):
        return len(self._deeds)

    def __eq__(self, other):
        return isinstance(other, Keeper) and self._plan == other._plan and self._now == other._now

    def __repr__(self):
        return f"Keeper({self._plan[0]} towns, {len(self.row())} turns)"

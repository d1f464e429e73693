"""Coasts: bridges fall and are built, and what is lacking is known at once."""

from sparebridges.arguments import check_two_islands, check_wished_bridges, is_within
from sparebridges.errors import InvalidNumber, NothingToUndo, TooMany
from sparebridges.limits import MOST_BRIDGES
from sparebridges.lots import place_of
from sparebridges.needed import needed
from sparebridges.trials import Trial


class Coast:
    """A coast on which bridges fall and are built."""

    def __init__(self, sea, bridges, wishes):
        check_wished_bridges(sea, bridges, wishes)
        self._sea = sea
        self._wishes = wishes
        # A state is a pair: the bridges, and how many have been built. The last one is that of now.
        self._states = ((bridges, 0),)

    def __eq__(self, other):
        # Another object is not asked whether it is equal to this one.
        return self is other

    @property
    def sea(self):
        """The sea of the coast."""
        return self._sea

    @property
    def wishes(self):
        """The wished strengths as they were passed."""
        return self._wishes

    @property
    def bridges(self):
        """The bridges that stand now."""
        return self._states[-1][0]

    @property
    def built(self):
        """How many bridges have been built by builds that have not been taken back."""
        return self._states[-1][1]

    @property
    def changes(self):
        """How many falls and builds can be taken back."""
        return len(self._states) - 1

    def fall(self, one, other, many):
        """Let so many bridges of this pair fall."""
        self._check(one, other, many)
        place = place_of(self._sea, one, other)
        if self.bridges[place] < many:
            raise TooMany((one, other))
        self._states = (*self._states, (with_more(self.bridges, place, -many), self.built))

    def build(self, one, other, many):
        """Build so many bridges of this pair."""
        self._check(one, other, many)
        place = place_of(self._sea, one, other)
        if self.bridges[place] + many > MOST_BRIDGES:
            raise TooMany((one, other))
        self._states = (*self._states, (with_more(self.bridges, place, many), self.built + many))

    def undo(self):
        """Take back the last fall or build that has not been taken back."""
        if self.changes == 0:
            raise NothingToUndo()
        self._states = self._states[:-1]

    def lacking(self):
        """Return how many new bridges are needed now."""
        return needed(self._sea, self.bridges, self._wishes)

    def trial(self):
        """Return what a with statement takes to put the coast back when its block ends."""
        return Trial(self)

    def tried(self, action):
        """Return what a function returns for the coast, which is put back then."""
        with self.trial() as coast:
            return action(coast)

    def _check(self, one, other, many):
        """Raise the first error of two islands and a number of bridges that fall or are built."""
        check_two_islands(self._sea, one, other)
        if not is_within(many, 1, MOST_BRIDGES):
            raise InvalidNumber(many)


def with_more(bridges, place, more):
    """Return bridges with so many more of the pair at this place."""
    return (*bridges[:place], bridges[place] + more, *bridges[place + 1:])

"""Books: seas under names, and wishes that hold after each change."""

from sparebridges.arguments import check_sea, is_within
from sparebridges.errors import Broken, InvalidIndex, InvalidName, InvalidWish, NothingToUndo, UnknownName
from sparebridges.names import is_name
from sparebridges.trials import SafeTrial
from sparebridges.wishes import holds, is_wish


class Book:
    """A book of seas under names, with wishes in an order."""

    def __init__(self):
        # A state is a pair: the seas by their names, in a dict that is never changed itself, and the wishes. The last
        # one is that of now.
        self._states = (({}, ()),)

    def __eq__(self, other):
        # Another object is not asked whether it is equal to this one.
        return self is other

    @property
    def names(self):
        """The ascending tuple of the names."""
        return tuple(sorted(self._states[-1][0]))

    @property
    def wishes(self):
        """The tuple of the wishes as they were passed."""
        return self._states[-1][1]

    @property
    def changes(self):
        """How many changes can be taken back."""
        return len(self._states) - 1

    def __contains__(self, x):
        # Only a string is looked up, so that no method of a foreign object runs.
        return isinstance(x, str) and x in self._states[-1][0]

    def __len__(self):
        return len(self._states[-1][0])

    def __bool__(self):
        # A book without seas is true, too.
        return True

    def __iter__(self):
        raise TypeError("a book is not iterated over")

    def __getitem__(self, at):
        seas = self._states[-1][0]
        if not isinstance(at, str) or at not in seas:
            raise UnknownName(at)
        return seas[at]

    def __setitem__(self, at, worth):
        if not is_name(at):
            raise InvalidName(at)
        check_sea(worth)
        seas, wishes = self._states[-1]
        for index, wish in enumerate(wishes):
            # The wishes for other seas hold as they did before.
            if wish[1] == at and not holds(worth, wish):
                raise Broken(index)
        self._change({**seas, at: worth}, wishes)

    def wish(self, wish):
        """Make a wish more, behind the others."""
        if not is_wish(wish):
            raise InvalidWish(wish)
        seas, wishes = self._states[-1]
        if wish[1] not in seas:
            raise UnknownName(wish[1])
        # The wishes ahead of it hold as they did before.
        if not holds(seas[wish[1]], wish):
            raise Broken(len(wishes))
        self._change(seas, (*wishes, wish))

    def lift(self, index):
        """Take a wish away."""
        seas, wishes = self._states[-1]
        if not is_within(index, 0, len(wishes) - 1):
            raise InvalidIndex(index)
        self._change(seas, (*wishes[:index], *wishes[index + 1:]))

    def undo(self):
        """Take back the last change that has not been taken back."""
        if self.changes == 0:
            raise NothingToUndo()
        self._states = self._states[:-1]

    def trial(self):
        """Return what a with statement takes to put the book back if its block ends with an exception."""
        return SafeTrial(self)

    def tried(self, action):
        """Return what a function returns for the book, which is put back if it raises an exception."""
        with self.trial() as book:
            return action(book)

    def _change(self, seas, wishes):
        """Have these seas and wishes from now on."""
        self._states = (*self._states, (seas, wishes))

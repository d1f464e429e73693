"""Seas: islands in an order, their pairs and their texts."""

from sparebridges.errors import InvalidIslands, InvalidText
from sparebridges.limits import MOST_ISLANDS
from sparebridges.names import is_name


def check_islands(islands):
    """Raise InvalidIslands if any value is not the islands of a sea."""
    if not isinstance(islands, tuple) or len(islands) < 2:
        raise InvalidIslands(None)
    for index, island in enumerate(islands):
        # The name is asked before the equal ones, so that only strings are compared.
        if index == MOST_ISLANDS or not is_name(island) or island in islands[:index]:
            raise InvalidIslands(index)


def pairs_of(islands):
    """Pair each island with those behind it."""
    return tuple([(one, other) for at, one in enumerate(islands) for other in islands[at + 1:]])


def islands_from(text):
    """Return the words behind the first one if any value begins like the text of a sea, otherwise nothing."""
    words = text.split(" ") if isinstance(text, str) else []
    return tuple(words[1:]) if words[:1] == ["islands"] else ()


class Sea:
    """Two to five islands in an order."""

    def __init__(self, islands):
        check_islands(islands)
        self._islands = islands
        self._pairs = pairs_of(islands)

    @classmethod
    def read(cls, text):
        """Return the sea with this text."""
        try:
            return cls(islands_from(text))
        except InvalidIslands:
            raise InvalidText(text) from None

    @property
    def islands(self):
        """The islands as they were passed."""
        return self._islands

    @property
    def pairs(self):
        """The pairs (one, other) of islands, in the order of the islands."""
        return self._pairs

    def __contains__(self, x):
        # Only a string is compared, so that no method of a foreign object runs.
        return isinstance(x, str) and x in self._islands

    def __len__(self):
        return len(self._islands)

    def __str__(self):
        return " ".join(["islands", *self._islands])

    def __eq__(self, other):
        # The islands are compared, since they are equal just if the texts are.
        return isinstance(other, Sea) and self._islands == other._islands

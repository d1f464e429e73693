"""How many bridges of a pair can be closed."""

from sparebridges.arguments import check_two_islands, check_wished_bridges
from sparebridges.errors import TooWeak
from sparebridges.lots import lacks_of, lots_of, parts, place_of
from sparebridges.needed import needed


def closable(sea, bridges, wishes, one, other):
    """Return how many bridges of this pair can be closed so that wished strengths are still fulfilled."""
    check_wished_bridges(sea, bridges, wishes)
    check_two_islands(sea, one, other)
    missing = needed(sea, bridges, wishes)
    if missing > 0:
        raise TooWeak(missing)
    lacks = lacks_of(len(sea), bridges, wishes)
    first, second = sea.islands.index(one), sea.islands.index(other)
    spare = [-lacks[lot] for lot in lots_of(len(sea)) if parts(lot, first, second)]
    return min([bridges[place_of(sea, one, other)], *spare])

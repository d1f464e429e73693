"""What a claim and a certificate are, worked out anew from the words of point 17."""

import re

from sparebridges.seas import Sea
from tests import reference


def integer(value, least=None, most=None):
    if value.__class__ is not int:
        return False
    return (least is None or value >= least) and (most is None or value <= most)


def numbers(value, many, least, most=None):
    if value.__class__ is not tuple or len(value) != many:
        return False
    return all(integer(one, least, most) for one in value)


def sea_of(text):
    """The sea with this text, or None."""
    if text.__class__ is not str or not re.fullmatch("islands( [a-z][a-z0-9]{0,7}){2,5}", text):
        return None
    islands = tuple(text.split(" ")[1:])
    return Sea(islands) if len(set(islands)) == len(islands) else None


def one_of(sea, value):
    return value.__class__ is str and value in sea.islands


def two_of(sea, one, other):
    return one_of(sea, one) and one_of(sea, other) and one != other


def lot(sea, value):
    """Whether a value is a lot."""
    if value.__class__ is not tuple or not all(one_of(sea, island) for island in value):
        return False
    return value in reference.lots(sea)


def apart(sea, value):
    """Whether a value is a tuple of lots, no two of which have an island in common."""
    if value.__class__ is not tuple or not all(lot(sea, one) for one in value):
        return False
    islands = [island for one in value for island in one]
    return len(islands) == len(set(islands))


def table(bridges, value):
    return numbers(value, len(bridges), 0) and all(there <= number for there, number in zip(value, bridges))


def between(sea, bridges, told, paper):
    if len(told) != 3 or not two_of(sea, *told[:2]) or not integer(told[2], 0):
        return False
    one, other, number = told
    if paper.__class__ is not tuple or len(paper) != 2 or not lot(sea, paper[0]):
        return False
    parted, ways = paper
    if (one in parted) == (other in parted) or reference.leading(sea, bridges, parted) != number:
        return False
    if not numbers(ways, len(bridges), None) or any(abs(way) > has for way, has in zip(ways, bridges)):
        return False
    for island in sea.islands:
        out = sum(way for way, pair in zip(ways, sea.pairs) if pair[0] == island)
        into = sum(way for way, pair in zip(ways, sea.pairs) if pair[1] == island)
        if island not in (one, other) and out != into or island == one and out - into != number:
            return False
    return True


def needed(sea, bridges, told, paper):
    if len(told) != 2 or not numbers(told[0], len(bridges), 2, 10 ** 30) or not integer(told[1], 0):
        return False
    wishes, number = told
    if paper.__class__ is not tuple or len(paper) != 2 or not numbers(paper[0], len(bridges), 0):
        return False
    new, lots = paper
    if sum(new) != number or not reference.do(sea, bridges, wishes, new) or not apart(sea, lots):
        return False
    return number == 0 or sum(reference.lack(sea, bridges, wishes, one) for one in lots) > 2 * number - 2


def ends(sea, bridges, told, paper):
    if len(told) != 3 or not numbers(told[0], len(bridges), 2, 10 ** 30) or not integer(told[2], 0):
        return False
    wishes, island, number = told
    if not one_of(sea, island):
        return False
    # No lot but that of the island alone has no island but this, and it stands there at most once.
    if number == 0 and paper.__class__ is tuple and paper == ():
        return True
    if paper.__class__ is not tuple or len(paper) != 1 or not lot(sea, paper[0]) or paper[0] != (island,):
        return False
    return reference.lack(sea, bridges, wishes, (island,)) >= number


def ways(sea, bridges, told, paper):
    if len(told) != 1 or not integer(told[0], 0) or not table(bridges, paper):
        return False
    return reference.strong_by(sea, bridges, paper) >= told[0]


def no_ways(sea, bridges, told, paper):
    if len(told) != 1 or not integer(told[0], 0) or not lot(sea, paper):
        return False
    return reference.leading(sea, bridges, paper) < 2 * told[0]


def arrows(sea, bridges, told, paper):
    if len(told) != 3 or not table(bridges, told[0]) or not integer(told[1], 0) or not integer(told[2], 0):
        return False
    forward, strong, number = told
    if paper.__class__ is not tuple or len(paper) != 3 or paper[1].__class__ is not str:
        return False
    new, side, lots = paper
    if new.__class__ is not tuple or len(new) != len(bridges) or not all(numbers(pair, 2, 0) for pair in new):
        return False
    if sum(map(sum, new)) != number or side not in ("in", "out") or not apart(sea, lots):
        return False
    if reference.strong_by(sea, *reference.with_arrows(bridges, forward, new)) < strong:
        return False
    leading = reference.leading_in if side == "in" else reference.leading_off
    return number == 0 or sum(strong - leading(sea, bridges, forward, one) for one in lots) == number


FORMS = {
    "between": between, "needed": needed, "ends": ends, "ways": ways, "no ways": no_ways, "arrows": arrows}


def right(claim, paper):
    """Whether a value is a claim, and another one a certificate for it."""
    if claim.__class__ is not tuple or len(claim) < 3 or claim[0].__class__ is not str or claim[0] not in FORMS:
        return False
    sea = sea_of(claim[1])
    if sea is None or not numbers(claim[2], len(sea.pairs), 0, 10 ** 30):
        return False
    return FORMS[claim[0]](sea, claim[2], claim[3:], paper)


def places(value, path=()):
    """All places within a value that is made of tuples, itself among them."""
    yield path
    if value.__class__ is tuple:
        for at, one in enumerate(value):
            yield from places(one, (*path, at))


def at(value, path):
    for step in path:
        value = value[step]
    return value


def bent(value, path, new):
    """The value with something else at this place."""
    if not path:
        return new
    return (*value[:path[0]], bent(value[path[0]], path[1:], new), *value[path[0] + 1:])

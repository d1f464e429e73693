"""What the functions of the package ask of their arguments."""

from sparebridges.errors import InvalidBridges, InvalidEnds, InvalidForward, InvalidNumber, InvalidPrices
from sparebridges.errors import InvalidWishes, NotASea, UnknownName
from sparebridges.limits import MOST_BRIDGES, MOST_PRICE
from sparebridges.seas import Sea

LEAST_WISH = 2


def is_integer(value):
    """Tell whether any value is an integer, which True and False are not."""
    return isinstance(value, int) and not isinstance(value, bool)


def is_within(value, least, most):
    """Tell whether any value is an integer from least to most, or from least on if most is None."""
    return is_integer(value) and value >= least and (most is None or value <= most)


def wrong_places(values, many, least, most):
    """List the indexes of wrong elements of any value; None alone if it is no tuple of so many."""
    if not isinstance(values, tuple) or len(values) != many:
        return [None]
    return [index for index, value in enumerate(values) if not is_within(value, least, most)]


def check_sea(sea):
    """Raise NotASea if any value is no Sea."""
    if not isinstance(sea, Sea):
        raise NotASea(sea)


def check_bridges(sea, bridges):
    """Raise InvalidBridges if any value is not bridges of this sea."""
    wrong = wrong_places(bridges, len(sea.pairs), 0, MOST_BRIDGES)
    if wrong:
        raise InvalidBridges(wrong[0])


def check_wishes(sea, wishes):
    """Raise InvalidWishes if any value is not wished strengths of this sea."""
    if is_within(wishes, LEAST_WISH, MOST_BRIDGES):
        return
    # An integer out of bounds is no tuple, either: both have None as their index.
    wrong = wrong_places(wishes, len(sea.pairs), LEAST_WISH, MOST_BRIDGES)
    if wrong:
        raise InvalidWishes(wrong[0])


def check_wished_bridges(sea, bridges, wishes):
    """Raise the first error of a sea, its bridges and the strengths wished for them."""
    check_sea(sea)
    check_bridges(sea, bridges)
    check_wishes(sea, wishes)


def check_island(sea, island):
    """Raise UnknownName if any value is no island of this sea."""
    if island not in sea:
        raise UnknownName(island)


def are_two_islands(sea, one, other):
    """Tell whether any two values are two different islands of this sea."""
    return one in sea and other in sea and one != other


def check_two_islands(sea, one, other):
    """Raise UnknownName if any two values are not two different islands of this sea."""
    check_island(sea, one)
    if not are_two_islands(sea, one, other):
        raise UnknownName(other)


def check_prices(sea, prices):
    """Raise InvalidPrices if any value is not a price for each island."""
    wrong = wrong_places(prices, len(sea), 0, MOST_PRICE)
    if wrong:
        raise InvalidPrices(wrong[0])


def is_ends(sea, value):
    """Tell whether any value is a tuple with an integer from 0 on for each island."""
    return not wrong_places(value, len(sea), 0, None)


def check_ends(sea, ends):
    """Raise InvalidEnds if any value is not a tuple with an integer from 0 on for each island."""
    wrong = wrong_places(ends, len(sea), 0, None)
    if wrong:
        raise InvalidEnds(wrong[0])


def check_number(number):
    """Raise InvalidNumber if any value is no integer from 0 on."""
    if not is_within(number, 0, None):
        raise InvalidNumber(number)


def wrong_in_table(bridges, forward):
    """List the indexes of wrong elements of any value that should be a one-way table; None alone if of wrong form."""
    if not isinstance(forward, tuple) or len(forward) != len(bridges):
        return [None]
    return [index for index, number in enumerate(bridges) if not is_within(forward[index], 0, number)]


def check_forward(bridges, forward):
    """Raise InvalidForward if any value is no one-way table for these bridges."""
    wrong = wrong_in_table(bridges, forward)
    if wrong:
        raise InvalidForward(wrong[0])

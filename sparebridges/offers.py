"""Which offers of new bridges fulfil wished strengths."""

from sparebridges.arguments import are_two_islands, check_wished_bridges, is_within
from sparebridges.errors import InvalidOffers
from sparebridges.limits import MOST_BRIDGES, MOST_OFFERS
from sparebridges.lots import in_order, indexes_in, lacks_of, place_of


def fulfilling(sea, bridges, wishes, offers):
    """Return all least sets of offers with which wished strengths are fulfilled, as tuples of their indexes."""
    check_wished_bridges(sea, bridges, wishes)
    check_offers(sea, offers)
    many = len(offers)
    least = []
    # The smaller sets come first: what holds none of the least ones so far holds no smaller set that does it.
    for chosen in in_order([indexes_in(many, number) for number in range(1 << many)]):
        if not any([is_part(one, chosen) for one in least]):
            built = built_with(sea, bridges, [offers[index] for index in chosen])
            if max(lacks_of(len(sea), built, wishes)) <= 0:
                least.append(chosen)
    return tuple(least)


def is_offer(sea, value):
    """Tell whether any value is an offer: two different islands, and how many bridges between them."""
    if not isinstance(value, tuple) or len(value) != 3:
        return False
    one, other, many = value
    return are_two_islands(sea, one, other) and is_within(many, 1, MOST_BRIDGES)


def check_offers(sea, offers):
    """Raise InvalidOffers if any value is not a tuple of at most so many offers as can be."""
    if not isinstance(offers, tuple):
        raise InvalidOffers(None)
    for index, offer in enumerate(offers):
        if index == MOST_OFFERS or not is_offer(sea, offer):
            raise InvalidOffers(index)


def is_part(indexes, others):
    """Tell whether each of these indexes is among the others."""
    return all([index in others for index in indexes])


def built_with(sea, bridges, offers):
    """List the bridges that there are with those that are offered."""
    built = list(bridges)
    for one, other, many in offers:
        built[place_of(sea, one, other)] += many
    return built

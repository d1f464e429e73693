"""The checker: it believes no claim without a certificate, for which it only counts what leads into and out of lots."""

from sparebridges.arguments import LEAST_WISH, are_two_islands, is_within, wrong_in_table, wrong_places
from sparebridges.errors import InvalidIslands
from sparebridges.limits import MOST_BRIDGES
from sparebridges.lots import index_pairs, islands_in, lacks_of, leading_out, lots_of, parts, sum_over
from sparebridges.seas import Sea, islands_from
from sparebridges.tables import leading_into, one_way_lacks


def accepts_between(sea, bridges, told, certificate):
    """Check a lot and ways for two islands and their strength."""
    if len(told) != 3 or not are_two_islands(sea, told[0], told[1]) or not is_number(told[2]):
        return False
    if not is_tuple_of(certificate, 2) or not are_ways(bridges, certificate[1]):
        return False
    one, other, number = sea.islands.index(told[0]), sea.islands.index(told[1]), told[2]
    lot = lot_from(sea, certificate[0])
    if lot is None or not parts(lot, one, other) or leading_out(len(sea), bridges)[lot] != number:
        return False
    wanted = [0] * len(sea)
    wanted[one] = number
    wanted[other] = -number
    return leading_off(len(sea), certificate[1]) == wanted


def accepts_needed(sea, bridges, told, certificate):
    """Check new bridges and lots for wished strengths and how many are needed."""
    if len(told) != 2 or not are_strengths(sea, told[0]) or not is_number(told[1]) or not is_tuple_of(certificate, 2):
        return False
    strengths, number = told
    new, lots = certificate[0], lots_from(sea, certificate[1])
    if lots is None or wrong_places(new, len(bridges), 0, None) or sum(new) != number:
        return False
    built = [there + more for there, more in zip(bridges, new)]
    if max(lacks_of(len(sea), built, strengths)) > 0:
        return False
    return number == 0 or sum_over(lots, lacks_of(len(sea), bridges, strengths)) > 2 * number - 2


def accepts_ends(sea, bridges, told, certificate):
    """Check lots for wished strengths, an island and a number of ends that it cannot have fewer of."""
    if len(told) != 3 or not are_strengths(sea, told[0]) or told[1] not in sea or not is_number(told[2]):
        return False
    strengths, island, number = told
    lots = lots_from(sea, certificate)
    if lots is None or not all([islands_in(sea, lot) == (island,) for lot in lots]):
        return False
    return sum_over(lots, lacks_of(len(sea), bridges, strengths)) >= number


def accepts_ways(sea, bridges, told, certificate):
    """Check a one-way table for how strong it is."""
    if len(told) != 1 or not is_number(told[0]) or wrong_in_table(bridges, certificate):
        return False
    return is_strong(len(sea), bridges, certificate, told[0])


def accepts_no_ways(sea, bridges, told, certificate):
    """Check a lot for how strong no one-way table can be."""
    if len(told) != 1 or not is_number(told[0]):
        return False
    lot = lot_from(sea, certificate)
    return lot is not None and leading_out(len(sea), bridges)[lot] < 2 * told[0]


def accepts_arrows(sea, bridges, told, certificate):
    """Check new one-way bridges and lots for a one-way table, how strong it is to be and how many are needed."""
    if len(told) != 3 or wrong_in_table(bridges, told[0]) or not is_number(told[1]) or not is_number(told[2]):
        return False
    if not is_tuple_of(certificate, 3) or not are_arrows(bridges, certificate[0]) or not is_side(certificate[1]):
        return False
    forward, strong, number = told
    new, side, lots = certificate[0], certificate[1], lots_from(sea, certificate[2])
    if lots is None or sum([there + back for there, back in new]) != number:
        return False
    built = [has + there + back for has, (there, back) in zip(bridges, new)]
    led = [has + there for has, (there, back) in zip(forward, new)]
    if not is_strong(len(sea), built, led, strong):
        return False
    lacks_in, lacks_out = one_way_lacks(len(sea), bridges, forward, strong)
    return number == 0 or sum_over(lots, lacks_in if side == "in" else lacks_out) == number


CHECKS = {
    "between": accepts_between, "needed": accepts_needed, "ends": accepts_ends, "ways": accepts_ways,
    "no ways": accepts_no_ways, "arrows": accepts_arrows,
}


def accepts(claim, certificate):
    """Tell whether any value is a claim for the checker and another one is a certificate for it."""
    if not isinstance(claim, tuple) or len(claim) < 3:
        return False
    word, text, bridges, *told = claim
    sea = sea_from(text)
    if sea is None or wrong_places(bridges, len(sea.pairs), 0, MOST_BRIDGES):
        return False
    if not isinstance(word, str) or word not in CHECKS:
        return False
    check = CHECKS[word]
    return check(sea, bridges, told, certificate)


def sea_from(text):
    """Return the sea whose text any value is, or None."""
    try:
        return Sea(islands_from(text))
    except InvalidIslands:
        return None


def lot_from(sea, value):
    """Return the lot that any value is, as a number, or None."""
    if not isinstance(value, tuple) or not all([island in sea for island in value]):
        return None
    found = [lot for lot in lots_of(len(sea)) if islands_in(sea, lot) == value]
    return found[0] if found else None


def lots_from(sea, value):
    """List the lots, as numbers, that any value is a tuple of, none of them with a common island; or return None."""
    if not isinstance(value, tuple):
        return None
    lots, taken = [], 0
    for told in value:
        lot = lot_from(sea, told)
        if lot is None or lot & taken != 0:
            return None
        lots.append(lot)
        taken = taken | lot
    return lots


def is_number(value):
    """Tell whether any value is an integer from 0 on."""
    return is_within(value, 0, None)


def is_tuple_of(value, many):
    """Tell whether any value is a tuple of so many elements."""
    return isinstance(value, tuple) and len(value) == many


def is_side(value):
    """Tell whether any value is one of the words for what leads into lots, or out of them."""
    return isinstance(value, str) and value in ("in", "out")


def are_strengths(sea, value):
    """Tell whether any value is wished strengths of a sea, as a tuple."""
    return not wrong_places(value, len(sea.pairs), LEAST_WISH, MOST_BRIDGES)


def are_ways(bridges, value):
    """Tell whether any value is a one-way table for some of these bridges, with numbers below 0 for the ways back."""
    if not is_tuple_of(value, len(bridges)):
        return False
    return all([is_within(way, -number, number) for way, number in zip(value, bridges)])


def are_arrows(bridges, value):
    """Tell whether any value is a pair of integers from 0 on for each pair of islands."""
    return is_tuple_of(value, len(bridges)) and all([not wrong_places(pair, 2, 0, None) for pair in value])


def is_strong(many, bridges, forward, strong):
    """Tell whether a one-way table is so strong."""
    into = leading_into(many, bridges, forward)
    return all([into[lot] >= strong for lot in lots_of(many)])


def leading_off(many, ways):
    """List for every island how many more lead out of it than into it by these ways."""
    off = [0] * many
    for (one, other), number in zip(index_pairs(many), ways):
        off[one] += number
        off[other] -= number
    return off

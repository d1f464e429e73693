"""How strong one-way traffic can be, and how many ways lead into each island then."""

from sparebridges.arguments import check_bridges, check_ends, check_forward, check_island, check_number, check_sea
from sparebridges.errors import TooWeak
from sparebridges.lots import families_of, leading_out, lots_of, sum_over
from sparebridges.strengths import strength
from sparebridges.tables import leading_into, leading_into_with, table_with


def most_ways(sea, bridges):
    """Return the greatest k for which there is a k-strong one-way table."""
    return strength(sea, bridges) // 2


def one_way(sea, bridges, strong, ins=None):
    """Return a one-way table that is so strong; or, if ways in are told, one with these, None if there is none."""
    check_sea(sea)
    check_bridges(sea, bridges)
    check_number(strong)
    if ins is not None:
        check_ends(sea, ins)
    check_strong_enough(sea, bridges, strong)
    many = len(sea)
    if ins is None:
        return table_with(many, bridges, shared_ins(many, bridges, strong))
    return table_with(many, bridges, ins) if are_ins(many, bridges, strong, ins) else None


def in_range(sea, bridges, strong, island):
    """Return the least and the most of how many ways in this island has in one-way tables that are so strong."""
    check_sea(sea)
    check_bridges(sea, bridges)
    check_number(strong)
    check_island(sea, island)
    check_strong_enough(sea, bridges, strong)
    at = sea.islands.index(island)
    least = least_ins(len(sea), bridges, strong, at)
    # With all bridges led the other way a table is as strong, and the ways in are the ways out then.
    return least, leading_out(len(sea), bridges)[1 << at] - least


def ways_of(sea, bridges, forward):
    """Return the greatest k for which this one-way table is k-strong."""
    check_sea(sea)
    check_bridges(sea, bridges)
    check_forward(bridges, forward)
    into = leading_into(len(sea), bridges, forward)
    return min([into[lot] for lot in lots_of(len(sea))])


def ins_of(sea, bridges, forward):
    """Return the ways in of all islands by this one-way table."""
    check_sea(sea)
    check_bridges(sea, bridges)
    check_forward(bridges, forward)
    into = leading_into(len(sea), bridges, forward)
    return tuple([into[1 << index] for index in range(len(sea))])


def check_strong_enough(sea, bridges, strong):
    """Raise TooWeak if no one-way table is so strong."""
    most = most_ways(sea, bridges)
    if strong > most:
        raise TooWeak(most)


def are_ins(many, bridges, strong, ins):
    """Tell whether a one-way table that is so strong has these ways in."""
    if sum(ins) != sum(bridges):
        return False
    into = leading_into_with(many, bridges, ins)
    return all([into[lot] >= strong for lot in lots_of(many)])


def shared_ins(many, bridges, strong):
    """List ways in of a one-way table that is so strong; there must be one.

    Half of the bridges at each island would be enough for each lot, since at least 2 * strong lead out of it. What is
    asked of ways in is such that where halves are enough, whole numbers just below or above them are so, too.
    """
    out = leading_out(many, bridges)
    # Every choice of islands is tried where a half is rounded up, by adding one ahead of halving.
    for upwards in range(1 << many):
        ins = [(out[1 << index] + ((upwards >> index) & 1)) // 2 for index in range(many)]
        if are_ins(many, bridges, strong, ins):
            return ins
    return None


def least_ins(many, bridges, strong, at):
    """Return the least number of ways in of an island in one-way tables that are so strong; there must be one.

    Let the other islands be parted into lots. Out of each of these so many ways must lead: to other ones, for which
    only the bridges between them are there, or into this island. Some parting asks for all that it needs.
    """
    out, others = leading_out(many, bridges), (1 << many) - 1 - (1 << at)
    # The numbers of lots without a common island add up to that of all their islands.
    partings = [family for family in families_of(many) if sum(family) == others]
    # What leads out of all lots counts the bridges between them twice, and those to this island once.
    return max([len(family) * strong - (sum_over(family, out) - out[1 << at]) // 2 for family in partings])

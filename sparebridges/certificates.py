"""Answers with certificates for the checker."""

from sparebridges.arguments import check_number
from sparebridges.arrows import arrows_needed, new_arrows
from sparebridges.ends import end_range, new_bridges
from sparebridges.lots import greatest_family, islands_in, lacks_of, leading_out, sum_over, wish_of_each
from sparebridges.needed import needed
from sparebridges.oneway import most_ways, one_way
from sparebridges.strengths import between, cut, least_cuts
from sparebridges.tables import one_way_lacks, table_with


def certify_between(sea, bridges, one, other):
    """Return the claim of how strong two islands are, and a certificate."""
    number = between(sea, bridges, one, other)
    claim = ("between", str(sea), bridges, one, other, number)
    ways = ways_between(len(sea), bridges, sea.islands.index(one), sea.islands.index(other), number)
    return claim, (cut(sea, bridges, one, other), ways)


def certify_needed(sea, bridges, wishes):
    """Return the claim of how many new bridges are needed, and a certificate."""
    number = needed(sea, bridges, wishes)
    claim = ("needed", str(sea), bridges, wish_of_each(bridges, wishes), number)
    family = greatest_family(len(sea), lacks_of(len(sea), bridges, wishes))
    return claim, (new_bridges(sea, bridges, wishes), lots_as_told(sea, family))


def certify_ends(sea, bridges, wishes, island):
    """Return the claim of how many of the best new bridges end at least at an island, and a certificate."""
    least, _ = end_range(sea, bridges, wishes, island)
    claim = ("ends", str(sea), bridges, wish_of_each(bridges, wishes), island, least)
    # So many as are least are what the island alone lacks, unless it lacks nothing.
    return claim, ((island,),) if least > 0 else ()


def certify_ways(sea, bridges, strong):
    """Return the claim that there is a one-way table that is so strong, or that there is none, and a certificate."""
    most = most_ways(sea, bridges)
    check_number(strong)
    if strong <= most:
        return ("ways", str(sea), bridges, strong), one_way(sea, bridges, strong)
    return ("no ways", str(sea), bridges, strong), least_cuts(sea, bridges)[0]


def certify_arrows(sea, bridges, forward, strong):
    """Return the claim of how many new one-way bridges are needed, and a certificate."""
    number = arrows_needed(sea, bridges, forward, strong)
    claim = ("arrows", str(sea), bridges, forward, strong, number)
    lacks_in, lacks_out = one_way_lacks(len(sea), bridges, forward, strong)
    into, out = greatest_family(len(sea), lacks_in), greatest_family(len(sea), lacks_out)
    new = new_arrows(sea, bridges, forward, strong)
    if sum_over(into, lacks_in) == number:
        return claim, (new, "in", lots_as_told(sea, into))
    return claim, (new, "out", lots_as_told(sea, out))


def lots_as_told(sea, family):
    """Return lots as tuples of islands."""
    return tuple([islands_in(sea, lot) for lot in family])


def ways_between(many, bridges, one, other, number):
    """Return a one-way table for some of the bridges by which so many ways lead from one island to another.

    Each bridge counts twice here: as two that lead the same way if it is used, as one there and one back if it is not.
    Into one of the islands so many fewer lead than half of them then, into the other one so many more.
    """
    out = leading_out(many, bridges)
    ins = [out[1 << index] for index in range(many)]
    ins[one] -= number
    ins[other] += number
    table = table_with(many, [2 * has for has in bridges], ins)
    return tuple([there - has for there, has in zip(table, bridges)])

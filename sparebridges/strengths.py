"""How many bridges must fall until somebody is cut off, and where."""

from sparebridges.arguments import check_bridges, check_sea, check_two_islands, check_wished_bridges
from sparebridges.lots import has, in_order, indexes_in, islands_in, lacks_of, leading_out, lots_of, parts


def strength(sea, bridges):
    """Return the strength of the sea."""
    check_sea(sea)
    check_bridges(sea, bridges)
    out = leading_out(len(sea), bridges)
    return min([out[lot] for lot in lots_of(len(sea))])


def between(sea, bridges, one, other):
    """Return the strength of two islands."""
    check_sea(sea)
    check_bridges(sea, bridges)
    check_two_islands(sea, one, other)
    out = leading_out(len(sea), bridges)
    return least_parting(len(sea), out, sea.islands.index(one), sea.islands.index(other))


def cut(sea, bridges, one, other):
    """Return a lot with one, without other, out of which as many bridges lead as their strength is."""
    check_sea(sea)
    check_bridges(sea, bridges)
    check_two_islands(sea, one, other)
    out = leading_out(len(sea), bridges)
    first, second = sea.islands.index(one), sea.islands.index(other)
    lots = [lot for lot in lots_of(len(sea)) if has(lot, first) and not has(lot, second)]
    return islands_in(sea, min(lots, key=lambda lot: out[lot]))


def least_cuts(sea, bridges):
    """Return all least cuts, ordered by how many islands they have, then by the indexes of these."""
    check_sea(sea)
    check_bridges(sea, bridges)
    many = len(sea)
    out = leading_out(many, bridges)
    least = min([out[lot] for lot in lots_of(many)])
    cuts = [indexes_in(many, lot) for lot in lots_of(many) if has(lot, 0) and out[lot] == least]
    return tuple([tuple([sea.islands[index] for index in indexes]) for indexes in in_order(cuts)])


def tree(sea, bridges):
    """Return triples (one, other, number) that join all islands and tell the strength of any two of them."""
    check_sea(sea)
    check_bridges(sea, bridges)
    many = len(sea)
    out = leading_out(many, bridges)
    reached, triples = [0], []
    while len(reached) < many:
        # The strongest step out of what is reached makes the least number on each way a strength.
        steps = [(near, far) for near in reached for far in range(many) if far not in reached]
        one, other = max(steps, key=lambda step: least_parting(many, out, step[0], step[1]))
        reached.append(other)
        triples.append((sea.islands[one], sea.islands[other], least_parting(many, out, one, other)))
    return tuple(triples)


def is_fulfilled(sea, bridges, wishes):
    """Tell whether bridges fulfil wished strengths."""
    check_wished_bridges(sea, bridges, wishes)
    return max(lacks_of(len(sea), bridges, wishes)) <= 0


def least_parting(many, out, one, other):
    """Return the least number told for a lot that parts the islands with these indexes."""
    return min([out[lot] for lot in lots_of(many) if parts(lot, one, other)])

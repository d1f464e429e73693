"""One-way tables, and what leads into lots by them.

What is told for every lot is a list with the lot as the index, as in sparebridges.lots.
"""

from sparebridges.lots import has, index_pairs, lots_of, sum_in


def leads_into(lot, one, other):
    """Tell whether a way from one to other leads into a lot."""
    return has(lot, other) and not has(lot, one)


def leading_into(many, bridges, forward):
    """Count the bridges that lead into every lot by a one-way table."""
    into = [0] * (1 << many)
    for (one, other), number, there in zip(index_pairs(many), bridges, forward):
        for lot in lots_of(many):
            if leads_into(lot, one, other):
                into[lot] += there
            elif leads_into(lot, other, one):
                into[lot] += number - there
    return into


def one_way_lacks(many, bridges, forward, strong):
    """Tell for every lot how many more bridges must lead into it, and how many more out of it, by a one-way table."""
    into, every = leading_into(many, bridges, forward), (1 << many) - 1
    lacks_in, lacks_out = [0] * (1 << many), [0] * (1 << many)
    for lot in lots_of(many):
        lacks_in[lot] = strong - into[lot]
        # What leads out of a lot leads into all islands that are not in it.
        lacks_out[lot] = strong - into[every - lot]
    return lacks_in, lacks_out


def leading_into_with(many, bridges, ins):
    """Count the bridges that lead into every lot by any one-way table that has these ways in.

    Of the ways in of its islands, those count that are not bridges between them. Below 0 there is no such table.
    """
    into = [0] * (1 << many)
    for lot in lots_of(many):
        into[lot] = sum_in(lot, ins)
    for (one, other), number in zip(index_pairs(many), bridges):
        for lot in lots_of(many):
            if has(lot, one) and has(lot, other):
                into[lot] -= number
    return into


def table_with(many, bridges, ins):
    """Return a one-way table that has these ways in; there must be one.

    The ways in tell how many bridges lead into each lot. Of each pair as many as can be lead from one to other, so that
    no lot gets more than it must. As there is a table, those that are left can lead back.
    """
    left, table = leading_into_with(many, bridges, ins), []
    for (one, other), number in zip(index_pairs(many), bridges):
        there = min([number, *[left[lot] for lot in lots_of(many) if leads_into(lot, one, other)]])
        for lot in lots_of(many):
            if leads_into(lot, one, other):
                left[lot] -= there
            elif leads_into(lot, other, one):
                left[lot] -= number - there
        table.append(there)
    return tuple(table)

"""What the document says, worked out anew from its words: by looking at all lots, and by searching."""

import itertools


def lots(sea):
    """All lots of a sea, as tuples of islands."""
    many = range(1, len(sea.islands))
    return [lot for size in many for lot in itertools.combinations(sea.islands, size)]


def leads_out(pair, lot):
    return (pair[0] in lot) != (pair[1] in lot)


def leading(sea, bridges, lot):
    """How many bridges lead out of a lot."""
    return sum(number for pair, number in zip(sea.pairs, bridges) if leads_out(pair, lot))


def strength_of(sea, bridges, one, other):
    return min(leading(sea, bridges, lot) for lot in lots(sea) if leads_out((one, other), lot))


def strengths(sea, bridges):
    """The strength of each pair, in their order."""
    numbers = {lot: leading(sea, bridges, lot) for lot in lots(sea)}
    return tuple(min(numbers[lot] for lot in numbers if leads_out(pair, lot)) for pair in sea.pairs)


def wish_of_each(sea, wishes):
    return wishes if isinstance(wishes, tuple) else (wishes,) * len(sea.pairs)


def fulfil(sea, bridges, wishes):
    return all(has >= wish for has, wish in zip(strengths(sea, bridges), wish_of_each(sea, wishes)))


def lack(sea, bridges, wishes, lot):
    parted = [wish for pair, wish in zip(sea.pairs, wish_of_each(sea, wishes)) if leads_out(pair, lot)]
    return max(parted) - leading(sea, bridges, lot)


def families(islands, all_of):
    """All lists of lots of these islands without a common island; all_of is every island of the sea."""
    if not islands:
        yield []
        return
    first, rest = islands[0], islands[1:]
    yield from families(rest, all_of)
    for size in range(len(rest) + 1):
        for more in itertools.combinations(rest, size):
            if size + 1 < len(all_of):
                for family in families(tuple(island for island in rest if island not in more), all_of):
                    yield [(first, *more), *family]


def greatest_sum(sea, bridges, wishes, islands=None):
    """The greatest sum of lacks of lots without a common island; only of lots of these islands, if some are told."""
    lacks = {lot: lack(sea, bridges, wishes, lot) for lot in lots(sea)}
    chosen = sea.islands if islands is None else islands
    return max(sum(lacks[lot] for lot in family) for family in families(chosen, sea.islands))


def together(bridges, new):
    return tuple(one + other for one, other in zip(bridges, new))


def do(sea, bridges, wishes, new):
    """Whether new bridges do."""
    return fulfil(sea, together(bridges, new), wishes)


def ends_of(sea, new):
    return tuple(sum(number for pair, number in zip(sea.pairs, new) if island in pair) for island in sea.islands)


def sums(places, total):
    """All tuples with so many integers from 0 on that add up to a total."""
    if places == 1:
        yield (total,)
        return
    for first in range(total + 1):
        for rest in sums(places - 1, total - first):
            yield (first, *rest)


def all_that_do(sea, bridges, wishes, total):
    """All new bridges, so many in all, that do."""
    lacks = [(lack(sea, bridges, wishes, lot), lot) for lot in lots(sea) if sea.islands[0] in lot]
    rows = [
        (least, [place for place, pair in enumerate(sea.pairs) if leads_out(pair, lot)])
        for least, lot in lacks if least > 0]
    return [
        new for new in sums(len(sea.pairs), total)
        if all(sum(new[place] for place in places) >= least for least, places in rows)]


def search(sea, bridges, wishes, most):
    """The pair of the least number of new bridges and all best ones; None if more than so many are needed."""
    for total in range(most + 1):
        found = all_that_do(sea, bridges, wishes, total)
        if found:
            return total, found
    return None


def ends_do(sea, bridges, wishes, ends):
    """Whether ends are those of new bridges that do, by point 11."""
    if sum(ends) % 2 or any(number > sum(ends) - number for number in ends):
        return False
    at = dict(zip(sea.islands, ends))
    return all(sum(at[island] for island in lot) >= lack(sea, bridges, wishes, lot) for lot in lots(sea))

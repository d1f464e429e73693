"""What the document says, worked out anew from its words: by looking at all lots, and by searching."""

import itertools


def lots(sea):
    """All lots of a sea, as tuples of islands."""
    many = range(1, len(sea.islands))
    return [lot for size in many for lot in itertools.combinations(sea.islands, size)]


def leads_out(pair, lot):
    return (pair[0] in lot) != (pair[1] in lot)


def leading(sea, bridges, lot):
    """How many bridges lead out of a lot."""
    return sum(number for pair, number in zip(sea.pairs, bridges) if leads_out(pair, lot))


def strength_of(sea, bridges, one, other):
    return min(leading(sea, bridges, lot) for lot in lots(sea) if leads_out((one, other), lot))


def strengths(sea, bridges):
    """The strength of each pair, in their order."""
    numbers = {lot: leading(sea, bridges, lot) for lot in lots(sea)}
    return tuple(min(numbers[lot] for lot in numbers if leads_out(pair, lot)) for pair in sea.pairs)


def wish_of_each(sea, wishes):
    return wishes if isinstance(wishes, tuple) else (wishes,) * len(sea.pairs)


def fulfil(sea, bridges, wishes):
    return all(has >= wish for has, wish in zip(strengths(sea, bridges), wish_of_each(sea, wishes)))


def lack(sea, bridges, wishes, lot):
    parted = [wish for pair, wish in zip(sea.pairs, wish_of_each(sea, wishes)) if leads_out(pair, lot)]
    return max(parted) - leading(sea, bridges, lot)


def families(islands, all_of):
    """All lists of lots of these islands without a common island; all_of is every island of the sea."""
    if not islands:
        yield []
        return
    first, rest = islands[0], islands[1:]
    yield from families(rest, all_of)
    for size in range(len(rest) + 1):
        for more in itertools.combinations(rest, size):
            if size + 1 < len(all_of):
                for family in families(tuple(island for island in rest if island not in more), all_of):
                    yield [(first, *more), *family]


def greatest_sum(sea, bridges, wishes, islands=None):
    """The greatest sum of lacks of lots without a common island; only of lots of these islands, if some are told."""
    lacks = {lot: lack(sea, bridges, wishes, lot) for lot in lots(sea)}
    chosen = sea.islands if islands is None else islands
    return max(sum(lacks[lot] for lot in family) for family in families(chosen, sea.islands))


def together(bridges, new):
    return tuple(one + other for one, other in zip(bridges, new))


def do(sea, bridges, wishes, new):
    """Whether new bridges do."""
    return fulfil(sea, together(bridges, new), wishes)


def ends_of(sea, new):
    return tuple(sum(number for pair, number in zip(sea.pairs, new) if island in pair) for island in sea.islands)


def sums(places, total):
    """All tuples with so many integers from 0 on that add up to a total."""
    if places == 1:
        yield (total,)
        return
    for first in range(total + 1):
        for rest in sums(places - 1, total - first):
            yield (first, *rest)


def all_that_do(sea, bridges, wishes, total):
    """All new bridges, so many in all, that do."""
    lacks = [(lack(sea, bridges, wishes, lot), lot) for lot in lots(sea) if sea.islands[0] in lot]
    rows = [
        (least, [place for place, pair in enumerate(sea.pairs) if leads_out(pair, lot)])
        for least, lot in lacks if least > 0]
    return [
        new for new in sums(len(sea.pairs), total)
        if all(sum(new[place] for place in places) >= least for least, places in rows)]


def search(sea, bridges, wishes, most):
    """The pair of the least number of new bridges and all best ones; None if more than so many are needed."""
    for total in range(most + 1):
        found = all_that_do(sea, bridges, wishes, total)
        if found:
            return total, found
    return None


def ends_do(sea, bridges, wishes, ends):
    """Whether ends are those of new bridges that do, by point 11."""
    if sum(ends) % 2 or any(number > sum(ends) - number for number in ends):
        return False
    at = dict(zip(sea.islands, ends))
    return all(sum(at[island] for island in lot) >= lack(sea, bridges, wishes, lot) for lot in lots(sea))


def leading_in(sea, bridges, forward, lot):
    """How many bridges lead into a lot by a one-way table."""
    total = 0
    for (one, other), number, there in zip(sea.pairs, bridges, forward):
        if other in lot and one not in lot:
            total += there
        if one in lot and other not in lot:
            total += number - there
    return total


def leading_off(sea, bridges, forward, lot):
    """How many bridges lead out of a lot by a one-way table."""
    return leading_in(sea, bridges, forward, tuple(island for island in sea.islands if island not in lot))


def strong_by(sea, bridges, forward):
    """The greatest k for which a one-way table is k-strong."""
    return min(leading_in(sea, bridges, forward, lot) for lot in lots(sea))


def ways_in(sea, bridges, forward):
    return tuple(leading_in(sea, bridges, forward, (island,)) for island in sea.islands)


def tables(bridges):
    """All one-way tables for bridges."""
    return itertools.product(*[range(number + 1) for number in bridges])


def ways_in_do(sea, bridges, strong, ins):
    """Whether a table that is so strong has these ways in, by point 13."""
    if sum(ins) != sum(bridges):
        return False
    at = dict(zip(sea.islands, ins))
    for lot in lots(sea):
        between = sum(number for (one, other), number in zip(sea.pairs, bridges) if one in lot and other in lot)
        if sum(at[island] for island in lot) < between + strong:
            return False
    return True


def with_arrows(bridges, forward, new):
    """The bridges and the one-way table with new one-way bridges."""
    return (
        tuple(number + there + back for number, (there, back) in zip(bridges, new)),
        tuple(number + there for number, (there, back) in zip(forward, new)))


def arrows_by_sums(sea, bridges, forward, strong):
    """The least number of new one-way bridges, by the two sums of point 18."""
    sums_of = []
    for leading_by in (leading_in, leading_off):
        lacks = {lot: strong - leading_by(sea, bridges, forward, lot) for lot in lots(sea)}
        sums_of.append(max(sum(lacks[lot] for lot in family) for family in families(sea.islands, sea.islands)))
    return max(0, *sums_of)


def arrows_by_search(sea, bridges, forward, strong, most):
    """The least number of new one-way bridges, by trying them all; None if more than so many are needed."""
    ways = [(one, other) for one in sea.islands for other in sea.islands if one != other]
    rows = []
    for lot in lots(sea):
        lacking = strong - leading_in(sea, bridges, forward, lot)
        if lacking > 0:
            rows.append((lacking, [at for at, (one, other) in enumerate(ways) if other in lot and one not in lot]))
    for total in range(most + 1):
        for new in sums(len(ways), total):
            if all(sum(new[at] for at in places) >= lacking for lacking, places in rows):
                return total
    return None


def strength_at(sea, start, growth, step):
    """The strength of the sea at a step of bridges that grow."""
    return min(strengths(sea, tuple(begin + step * more for begin, more in zip(start, growth))))

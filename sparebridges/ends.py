"""How many new bridges end at each island, what they cost, and between which islands they go."""

from sparebridges.arguments import check_ends, check_island, check_prices, check_wished_bridges, is_ends
from sparebridges.lots import fewest_in_lots, has, index_pairs, lacks_of, lots_of, parts, sum_in


def end_range(sea, bridges, wishes, island):
    """Return the least and the most of how many bridges end at this island in best new ones."""
    check_wished_bridges(sea, bridges, wishes)
    check_island(sea, island)
    many, at = len(sea), sea.islands.index(island)
    lacks = lacks_of(many, bridges, wishes)
    others = [index for index in range(many) if index != at]
    return least_ends(many, lacks, [at, *others])[at], least_ends(many, lacks, [*others, at])[at]


def are_ends(sea, bridges, wishes, value):
    """Tell whether any value is the ends of new bridges that do."""
    check_wished_bridges(sea, bridges, wishes)
    return is_ends(sea, value) and are_enough(value, lacks_of(len(sea), bridges, wishes))


def cheapest(sea, bridges, wishes, prices):
    """Return the least price of new bridges that do, and ends that have it."""
    check_wished_bridges(sea, bridges, wishes)
    check_prices(sea, prices)
    order = sorted(range(len(sea)), key=lambda index: prices[index], reverse=True)
    ends = least_ends(len(sea), lacks_of(len(sea), bridges, wishes), order)
    return sum([price * number for price, number in zip(prices, ends)]), tuple(ends)


def new_bridges(sea, bridges, wishes, ends=None):
    """Return best new bridges; or, if ends are told, new bridges with these that do, None if there are none."""
    check_wished_bridges(sea, bridges, wishes)
    lacks = lacks_of(len(sea), bridges, wishes)
    if ends is None:
        return bridges_with(least_ends(len(sea), lacks, list(range(len(sea)))), lacks)
    check_ends(sea, ends)
    return bridges_with(ends, lacks) if are_enough(ends, lacks) else None


def are_enough(ends, lacks):
    """Tell whether there are new bridges with these ends that do."""
    total = sum(ends)
    if total & 1 == 1 or max(ends) * 2 > total:
        return False
    return all([sum_in(lot, ends) >= lacks[lot] for lot in lots_of(len(ends))])


def least_ends(many, lacks, order):
    """List ends of best new bridges: as few as can be at the first island of the order, then at the next one.

    Whatever the order is, the fewest that are enough for the lots are as many as the greatest sum of lacks of lots
    without a common island. If this is odd, one more is needed, and the last island takes it.
    No island has more than all others together then. Look at the lots of the greatest sum. If one of them has the
    island, then what lies outside of it lacks as much as it: either this or the other lots ask the other islands for
    half of all ends.
    """
    ends = fewest_in_lots(many, lacks, order)
    ends[order[-1]] += sum(ends) & 1
    return ends


def bridges_with(ends, lacks):
    """Return new bridges that do, with these ends, which must be enough.

    As many as the remaining ends and lacks let are built between each two islands. What forbids one more there (no end,
    a lot, or an island that has half of all ends) forbids it still when others have been built, so that one look at
    each pair is enough.
    """
    many = len(ends)
    left, lacking, built = list(ends), list(lacks), []
    for one, other in index_pairs(many):
        number = most_between(left, lacking, one, other)
        left[one] -= number
        left[other] -= number
        lacking = [lack - number if parts(lot, one, other) else lack for lot, lack in enumerate(lacking)]
        built.append(number)
    return tuple(built)


def most_between(left, lacking, one, other):
    """Count how many bridges can be built between two islands so that the ends that are left remain enough."""
    many = len(left)
    both = [lot for lot in lots_of(many) if has(lot, one) and has(lot, other)]
    spare = [(sum_in(lot, left) - lacking[lot]) // 2 for lot in both]
    others = [sum(left) // 2 - left[index] for index in range(many) if index != one and index != other]
    return min([left[one], left[other], *spare, *others])

"""Lots of islands, what leads out of them and what they lack.

Islands are known by their indexes here, and a lot is written as a number: the island with index k is in it if its bit k
is set. What is told for every lot is a list with the lot as the index; its first and last place, no island and all of
them, are no lots and have 0 in it.
"""


def index_pairs(many):
    """List the pairs of so many islands, in the order of the pairs of a sea."""
    return [(one, other) for one in range(many) for other in range(one + 1, many)]


def place_of(sea, one, other):
    """Return the place of a pair of islands among the pairs of their sea, whichever is told first."""
    return [one in pair and other in pair for pair in sea.pairs].index(True)


def lots_of(many):
    """List all lots of so many islands."""
    return list(range(1, (1 << many) - 1))


def has(lot, index):
    """Tell whether an island is in a lot."""
    return (lot >> index) & 1 == 1


def parts(lot, one, other):
    """Tell whether a lot parts two islands."""
    return has(lot, one) != has(lot, other)


def islands_in(sea, lot):
    """Return the islands of a lot, in the order of the sea."""
    return tuple([island for index, island in enumerate(sea.islands) if has(lot, index)])


def indexes_in(many, lot):
    """Return the indexes of the islands of a lot, ascending."""
    return tuple([index for index in range(many) if has(lot, index)])


def in_order(tuples):
    """Order tuples of indexes by how many indexes they have, then ascending."""
    return sorted(tuples, key=lambda indexes: (len(indexes), indexes))


def sum_in(lot, numbers):
    """Add up what is told for the islands of a lot."""
    return sum([number for index, number in enumerate(numbers) if has(lot, index)])


def leading_out(many, bridges):
    """Count the bridges that lead out of every lot."""
    out = [0] * (1 << many)
    for (one, other), number in zip(index_pairs(many), bridges):
        for lot in lots_of(many):
            if parts(lot, one, other):
                out[lot] += number
    return out


def most_wished(many, wishes):
    """For every lot, find the greatest strength that is wished for two islands that it parts."""
    most = [0] * (1 << many)
    for (one, other), wish in zip(index_pairs(many), wishes):
        for lot in lots_of(many):
            if parts(lot, one, other) and wish > most[lot]:
                most[lot] = wish
    return most


def wish_of_each(bridges, wishes):
    """Return wished strengths, be they an integer or a tuple, as the tuple with one for each pair."""
    return (wishes,) * len(bridges) if isinstance(wishes, int) else wishes


def lacks_of(many, bridges, wishes):
    """Tell the lack of every lot for wished strengths, be they an integer or a tuple."""
    most = most_wished(many, wish_of_each(bridges, wishes))
    return [wish - out for wish, out in zip(most, leading_out(many, bridges))]


def families_of(many):
    """List all tuples of lots that have no island in common, the empty one among them."""
    found = [((), 0)]
    for lot in lots_of(many):
        found = found + [((*family, lot), taken | lot) for family, taken in found if (taken & lot) == 0]
    return [family for family, _ in found]


def sum_over(family, numbers):
    """Add up what is told for the lots of a family."""
    return sum([numbers[lot] for lot in family])


def greatest_family(many, lacks):
    """Find lots that have no island in common, the sum of whose lacks is the greatest."""
    return max(families_of(many), key=lambda family: sum_over(family, lacks))


def greatest_sum(many, lacks):
    """Find the greatest sum of the lacks of lots that have no island in common, 0 if no lack is above 0."""
    return sum_over(greatest_family(many, lacks), lacks)


def fewest_in_lots(many, lacks, order):
    """List numbers for the islands: in each lot they are together at least its lack.

    At each island, the first one of the order first, as many are taken away as can be so that no lot goes short.
    """
    numbers = [max(lacks)] * many
    for index in order:
        numbers[index] = 0
        short = [lacks[lot] - sum_in(lot, numbers) for lot in lots_of(many) if has(lot, index)]
        numbers[index] = max([0, *short])
    return numbers

"""How few new one-way bridges make a one-way table so strong, and where they lead."""

from sparebridges.arguments import check_bridges, check_forward, check_number, check_sea
from sparebridges.lots import fewest_in_lots, greatest_sum, has, index_pairs, lots_of, sum_in
from sparebridges.tables import one_way_lacks


def arrows_needed(sea, bridges, forward, strong):
    """Return the least number of new one-way bridges with which this one-way table is so strong."""
    check_arrows(sea, bridges, forward, strong)
    many = len(sea)
    lacks_in, lacks_out = one_way_lacks(many, bridges, forward, strong)
    return max(greatest_sum(many, lacks_in), greatest_sum(many, lacks_out))


def new_arrows(sea, bridges, forward, strong):
    """Return new one-way bridges with which this one-way table is so strong, as few as can be.

    First it is settled of how many of them each island is the goal, and of how many the start, so that each lot has
    enough of both. Then as many as can be are led from each island to each other one. What forbids one more there (no
    start, no goal, or a lot with both islands that needs all that is left) forbids it still when others have been led,
    so that one look is enough.
    """
    number = arrows_needed(sea, bridges, forward, strong)
    many = len(sea)
    lacks_in, lacks_out = one_way_lacks(many, bridges, forward, strong)
    goals, starts = spread(many, lacks_in, number), spread(many, lacks_out, number)
    spare = [
        min(sum_in(lot, goals) - lacks_in[lot], sum_in(lot, starts) - lacks_out[lot]) for lot in range(1 << many)]
    arrows = []
    for one, other in index_pairs(many):
        there = lead(starts, goals, spare, one, other)
        back = lead(starts, goals, spare, other, one)
        arrows.append((there, back))
    return tuple(arrows)


def check_arrows(sea, bridges, forward, strong):
    """Raise the first error of a sea, its bridges, a one-way table for them and a number of ways."""
    check_sea(sea)
    check_bridges(sea, bridges)
    check_forward(bridges, forward)
    check_number(strong)


def spread(many, lacks, number):
    """List numbers for the islands, so many in all, that are together at least the lack in each lot.

    So many are enough: the fewest are as many as the greatest sum of these lacks, or no more than what two lots lack
    together in the other direction.
    """
    numbers = fewest_in_lots(many, lacks, list(range(many)))
    numbers[0] += number - sum(numbers)
    return numbers


def lead(starts, goals, spare, one, other):
    """Return how many lead from one to other at most, after counting them off from all that is left."""
    both = [lot for lot in lots_of(len(starts)) if has(lot, one) and has(lot, other)]
    number = min([starts[one], goals[other], *[spare[lot] for lot in both]])
    starts[one] -= number
    goals[other] -= number
    for lot in both:
        spare[lot] -= number
    return number

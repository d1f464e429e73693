"""How many new bridges are needed."""

from sparebridges.arguments import LEAST_WISH, check_bridges, check_sea, check_wished_bridges
from sparebridges.lots import families_of, greatest_sum, lacks_of, leading_out, sum_over
from sparebridges.strengths import tree


def needed(sea, bridges, wishes):
    """Return the least number of new bridges that do for wished strengths."""
    check_wished_bridges(sea, bridges, wishes)
    return (greatest_sum(len(sea), lacks_of(len(sea), bridges, wishes)) + 1) // 2


def joined(sea, bridges):
    """Return the least number of new bridges with which there is a way between any two islands."""
    # Each part but one hangs on a triple of the tree that tells no bridge; the tree asks the same of its arguments.
    return len([triple for triple in tree(sea, bridges) if triple[2] == 0])


def for_all(sea, bridges):
    """Return the lines of the greatest sum of lacks for all strengths that can be wished for all pairs."""
    check_sea(sea)
    check_bridges(sea, bridges)
    out = leading_out(len(sea), bridges)
    # With k wished for all pairs, the lacks of p lots sum up to p * k less all that leads out of them.
    lines = [(-sum_over(family, out), len(family)) for family in families_of(len(sea))]
    return greatest_lines(lines, LEAST_WISH)


def greatest_lines(lines, begin):
    """Return triples (begin, base, slope) of the greatest of lines (base, slope), from begin on."""
    triples = []
    while begin is not None:
        value = greatest_at(lines, begin)
        slope = greatest_at(lines, begin + 1) - value
        base = value - slope * begin
        triples.append((begin, base, slope))
        begin = first_above(lines, base, slope)
    return tuple(triples)


def greatest_at(lines, at):
    """Return the greatest value that one of the lines has there."""
    return max([base + slope * at for base, slope in lines])


def first_above(lines, base, slope):
    """Return where a line rises first above the told one, which is as high as they are at two neighbouring places.

    Only a steeper line can rise above it, and it does so behind these places. None is returned if there is none.
    """
    # At (base - its base) / (its slope - slope) a steeper line crosses; at the next integer it is above.
    begins = [(base - low) // (steep - slope) + 1 for low, steep in lines if steep > slope]
    return min(begins) if begins else None

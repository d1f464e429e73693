"""How many new bridges are needed."""

from sparebridges.arguments import LEAST_WISH, check_bridges, check_sea, check_wished_bridges
from sparebridges.lines import greatest_lines
from sparebridges.lots import families_of, greatest_sum, lacks_of, leading_out, sum_over
from sparebridges.strengths import tree


def needed(sea, bridges, wishes):
    """Return the least number of new bridges that do for wished strengths."""
    check_wished_bridges(sea, bridges, wishes)
    return (greatest_sum(len(sea), lacks_of(len(sea), bridges, wishes)) + 1) // 2


def joined(sea, bridges):
    """Return the least number of new bridges with which there is a way between any two islands."""
    # Each part but one hangs on a triple of the tree that tells no bridge; the tree asks the same of its arguments.
    return len([triple for triple in tree(sea, bridges) if triple[2] == 0])


def for_all(sea, bridges):
    """Return the lines of the greatest sum of lacks for all strengths that can be wished for all pairs."""
    check_sea(sea)
    check_bridges(sea, bridges)
    out = leading_out(len(sea), bridges)
    # With k wished for all pairs, the lacks of p lots sum up to p * k less all that leads out of them.
    lines = [(-sum_over(family, out), len(family)) for family in families_of(len(sea))]
    return greatest_lines(lines, LEAST_WISH)

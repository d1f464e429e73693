"""How strength grows with bridges that are built step by step, for ever."""

from sparebridges.arguments import check_sea, wrong_places
from sparebridges.errors import InvalidBridges, InvalidGrowth
from sparebridges.lines import greatest_lines
from sparebridges.lots import leading_out, lots_of

MOST_AT_START = 99
MOST_GROWTH = 9


def grown(sea, start, growth):
    """Return the lines of the strength of the sea at all steps."""
    check_sea(sea)
    check_growing(sea, start, growth)
    begins, steps = leading_out(len(sea), start), leading_out(len(sea), growth)
    # The least of lines is what the greatest of their opposites is the opposite of.
    opposites = [(-begins[lot], -steps[lot]) for lot in lots_of(len(sea))]
    return tuple([(begin, -base, -slope) for begin, base, slope in greatest_lines(opposites, 0)])


def check_growing(sea, start, growth):
    """Raise InvalidBridges or InvalidGrowth if any two values are not the start and the growth of bridges that grow."""
    wrong = wrong_places(start, len(sea.pairs), 0, MOST_AT_START)
    if wrong:
        raise InvalidBridges(wrong[0])
    wrong = wrong_places(growth, len(sea.pairs), 0, MOST_GROWTH)
    if wrong:
        raise InvalidGrowth(wrong[0])

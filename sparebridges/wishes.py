"""What a wish of a book is, and when it holds."""

from sparebridges.arguments import LEAST_WISH, is_within
from sparebridges.ends import end_range
from sparebridges.errors import InvalidBridges, InvalidWishes, UnknownName
from sparebridges.limits import MOST_BRIDGES
from sparebridges.names import is_name
from sparebridges.needed import needed
from sparebridges.oneway import most_ways
from sparebridges.strengths import between

# No sea has more pairs.
MOST_PAIRS = 10
# Behind the word of each form stand values of these kinds.
FORMS = {
    "strong": ("name", "bridges", "name", "name", "number"),
    "needed": ("name", "bridges", "strengths", "number"),
    "ends": ("name", "bridges", "strengths", "name", "number"),
    "ways": ("name", "bridges", "number"),
}


def is_wish(value):
    """Tell whether any value is a tuple of one of the forms of wishes."""
    if not isinstance(value, tuple) or len(value) == 0:
        return False
    word, *parts = value
    if not isinstance(word, str) or word not in FORMS or len(parts) != len(FORMS[word]):
        return False
    return all([is_of_kind(part, kind) for part, kind in zip(parts, FORMS[word])])


def is_of_kind(value, kind):
    """Tell whether any value is a name, bridges, strengths or a number, of whatever sea it is."""
    if kind == "name":
        return is_name(value)
    if kind == "bridges":
        return are_some(value, 0)
    if kind == "strengths":
        return is_within(value, LEAST_WISH, MOST_BRIDGES) or are_some(value, LEAST_WISH)
    return is_within(value, 0, None)


def are_some(value, least):
    """Tell whether any value is a tuple with an integer from least on for each pair of some sea."""
    if not isinstance(value, tuple) or len(value) < 1 or len(value) > MOST_PAIRS:
        return False
    return all([is_within(number, least, MOST_BRIDGES) for number in value])


def holds(sea, wish):
    """Tell whether a wish holds, its sea being this one."""
    word, _, bridges, *rest, number = wish
    try:
        if word == "strong":
            return between(sea, bridges, rest[0], rest[1]) >= number
        if word == "needed":
            return needed(sea, bridges, rest[0]) <= number
        if word == "ends":
            return end_range(sea, bridges, rest[0], rest[1])[1] <= number
        return most_ways(sea, bridges) >= number
    except (InvalidBridges, InvalidWishes, UnknownName):
        # It is a wish for another sea: of other islands, or of more or fewer of them.
        return False

"""Seas, bridges and wishes to try things with."""

import random

from sparebridges.seas import Sea

MOST = 10 ** 30
SEAS = [
    Sea(("a", "b")), Sea(("yew", "ash")), Sea(("a", "b", "c")), Sea(("c", "a1", "b")),
    Sea.read("islands ash elm oak yew"), Sea(("d", "b", "islands", "a")),
    Sea(("a", "b", "c", "d", "e")), Sea(("v", "z9", "abcdefgh", "m", "a")),
]
BAY, STRAIT = Sea.read("islands ash elm oak yew"), Sea(("a", "b"))
RING, STAR = (2, 0, 2, 2, 0, 2), (3, 3, 3, 0, 0, 0)


def between(sea, number, linked):
    """Bridges with this number between the islands whose indexes are linked, and none elsewhere."""
    at = {island: index for index, island in enumerate(sea.islands)}
    return tuple(number if linked(at[one], at[other]) else 0 for one, other in sea.pairs)


def shapes(sea, number):
    """Rings, stars, rows, all pairs alike, parts with nothing between them, nothing at all."""
    many = len(sea)
    return [
        between(sea, number, lambda one, other: other - one in (1, many - 1)),
        *[between(sea, number, lambda one, other, hub=hub: hub in (one, other)) for hub in range(many)],
        between(sea, number, lambda one, other: other - one == 1),
        between(sea, number, lambda one, other: True),
        between(sea, number, lambda one, other: (other - one) % 2 == 0),
        between(sea, number, lambda one, other: one > 0),
        between(sea, number, lambda one, other: other < many - 1),
        between(sea, number, lambda one, other: (one < 2) == (other < 2)),
        between(sea, number, lambda one, other: one == 0 and other == 1),
        between(sea, number, lambda one, other: False),
    ]


def any_size(chance):
    """A number from 0 to MOST, small ones and great ones alike."""
    return chance.choice([
        0, 0, 1, 2, 3, MOST, MOST - 1, chance.randint(0, 9), chance.randint(0, 10 ** 6), chance.randint(0, MOST),
        MOST // 2, MOST // 3, chance.randint(0, 2 ** 64)])


def mixed(sea, chance):
    """Bridges of several kinds, others for each state of the source."""
    pairs = range(len(sea.pairs))
    middle = chance.choice([2, 5, 10 ** 9, 10 ** 18, MOST - 9])
    return [
        tuple(chance.randint(0, 3) for _ in pairs),
        tuple(chance.choice([0, 0, 0, 1, 2]) for _ in pairs),
        tuple(any_size(chance) for _ in pairs),
        tuple(chance.choice([0, 0, 1, MOST]) for _ in pairs),
        tuple(middle + chance.randint(-2, 2) for _ in pairs),
        tuple(chance.choice([0, middle, middle + 1, 2 * middle // 3]) for _ in pairs),
    ]


def all_bridges(rounds, seed):
    """Pairs of a sea and bridges of it."""
    chance = random.Random(seed)
    for sea in SEAS:
        for number in (1, 2, 7, MOST):
            yield from [(sea, bridges) for bridges in shapes(sea, number)]
        for _ in range(rounds):
            yield from [(sea, bridges) for bridges in mixed(sea, chance)]


def wishes_for(sea, bridges, chance):
    """Wished strengths of several kinds, many of them close to what there is."""
    pairs = range(len(sea.pairs))
    degree = min(max(2, sum(bridges) // len(sea)), MOST)
    near = [min(max(2, degree + chance.randint(-2, 3)), MOST) for _ in pairs]
    return [
        2, chance.randint(2, 9), degree, MOST, any_wish(chance),
        tuple(near), tuple(chance.randint(2, 5) for _ in pairs), tuple(any_wish(chance) for _ in pairs),
        tuple(chance.choice([2, degree, MOST]) for _ in pairs),
    ]


def any_wish(chance):
    return max(2, any_size(chance))


def great(rounds, seed):
    """Triples of a sea, bridges and wishes of any size."""
    chance = random.Random(seed)
    for sea, bridges in all_bridges(rounds, seed):
        yield sea, bridges, chance.choice(wishes_for(sea, bridges, chance))


def small(rounds, seed):
    """Triples of a sea, few bridges and low wishes, so that few new bridges are needed."""
    chance = random.Random(seed)
    for _ in range(rounds):
        for sea in SEAS:
            pairs = range(len(sea.pairs))
            most, low = chance.randint(1, 4), chance.randint(2, 4)
            bridges = tuple(chance.choice([0, chance.randint(0, most)]) for _ in pairs)
            alike, several = chance.randint(2, 5), tuple(chance.randint(2, low + 1) for _ in pairs)
            yield sea, bridges, chance.choice([alike, several])

import itertools
import random
import unittest

from sparebridges.errors import InvalidOffers
from sparebridges.offers import fulfilling
from sparebridges.seas import Sea
from sparebridges.strengths import is_fulfilled
from tests import reference
from tests.samples import BAY, MOST, RING, SEAS, STAR, STRAIT, great, small


def offers_for(sea, chance, most):
    """Some offers of up to so many bridges, some of them alike."""
    offers = []
    for _ in range(chance.randint(0, 6)):
        one, other = chance.sample(sea.islands, 2)
        offers.append((one, other, chance.choice([1, 1, 2, chance.randint(1, most)])))
        if chance.random() < 0.2:
            offers.append(chance.choice([offers[-1], (other, one, offers[-1][2])]))
    return tuple(offers[:6])


class ExamplesTest(unittest.TestCase):
    def test_examples_of_the_document(self):
        offers = (("elm", "oak", 1), ("yew", "oak", 1), ("ash", "yew", 2), ("elm", "oak", 5))
        self.assertEqual(
            [fulfilling(BAY, STAR, 4, offers), fulfilling(BAY, RING, 4, (("ash", "oak", 1),)),
             fulfilling(BAY, RING, 5, (("ash", "oak", 9),))],
            [((0, 1), (0, 2), (1, 3), (2, 3)), ((),), ()])


class FulfillingTest(unittest.TestCase):
    def least_sets(self, sea, bridges, wishes, offers):
        """Works the least sets out anew: all that do it, and of these the ones without a part that does it."""
        sets = [one for size in range(len(offers) + 1) for one in itertools.combinations(range(len(offers)), size)]
        do = []
        for chosen in sets:
            built = dict(zip([frozenset(pair) for pair in sea.pairs], bridges))
            for index in chosen:
                one, other, many = offers[index]
                built[frozenset((one, other))] += many
            if reference.fulfil(sea, tuple(built.values()), wishes):
                do.append(chosen)
        return tuple(one for one in do if not any(set(part) < set(one) for part in do))

    def assert_told(self, sea, bridges, wishes, offers):
        told = fulfilling(sea, bridges, wishes, offers)
        least = self.least_sets(sea, bridges, wishes, offers)
        self.assertEqual(told, least, (str(sea), bridges, wishes, offers))
        self.assertEqual({told.__class__, *[one.__class__ for one in told]}, {tuple})
        return told

    def test_few_bridges_against_all_sets(self):
        chance, found = random.Random(1), set()
        for sea, bridges, wishes in small(16, 1):
            told = self.assert_told(sea, bridges, wishes, offers_for(sea, chance, 4))
            found.add((min(len(told), 3), min([len(one) for one in told], default=None)))
        # None, the empty one, and several larger ones are among them.
        self.assertTrue({(0, None), (1, 0), (1, 1), (2, 1), (3, 2), (3, 3)} <= found, found)

    def test_great_numbers_against_all_sets(self):
        chance, several = random.Random(2), 0
        for sea, bridges, wishes in great(1, 2):
            told = self.assert_told(sea, bridges, wishes, offers_for(sea, chance, MOST))
            several += len(told) > 1
        self.assertGreater(several, 10)

    def test_order_by_size_and_then_ascending(self):
        sea = Sea(("c", "b", "a"))
        offers = (("c", "b", 1), ("b", "a", 1), ("a", "c", 1), ("b", "a", 2), ("a", "b", 1), ("c", "b", 2))
        told = self.assert_told(sea, (0, 0, 0), 2, offers)
        self.assertEqual(told, tuple(sorted(told, key=lambda one: (len(one), one))))
        self.assertEqual(told, ((3, 5), (0, 1, 2), (0, 2, 3), (0, 2, 4), (1, 2, 5), (1, 4, 5), (2, 4, 5)))

    def test_none_and_the_empty_set(self):
        for sea in SEAS:
            bridges, one, other = (0,) * len(sea.pairs), sea.islands[0], sea.islands[1]
            self.assertEqual(fulfilling(sea, bridges, 2, ()), ())
            self.assertEqual(fulfilling(sea, (2,) * len(bridges), 2, ()), ((),))
            self.assertEqual(fulfilling(sea, (2,) * len(bridges), 2, ((one, other, 1),) * 6), ((),))
            self.assertEqual(fulfilling(sea, bridges, MOST, ((one, other, MOST - 1),)), ())

    def test_offers_that_are_alike(self):
        offer = ("b", "a", 1)
        self.assertEqual(fulfilling(STRAIT, (1,), 2, (offer,) * 6), tuple((index,) for index in range(6)))
        pairs = tuple(itertools.combinations(range(6), 2))
        self.assertEqual(fulfilling(STRAIT, (0,), 2, (offer, ("a", "b", 1)) * 3), pairs)
        self.assertEqual(fulfilling(STRAIT, (0,), 6, (offer,) * 6), ((0, 1, 2, 3, 4, 5),))
        self.assertEqual(fulfilling(STRAIT, (0,), 7, (offer,) * 6), ())

    def test_more_bridges_than_a_sea_can_have(self):
        offers = (("a", "b", MOST), ("b", "a", MOST), ("a", "b", MOST))
        self.assertEqual(fulfilling(STRAIT, (MOST,), MOST, offers), ((),))
        self.assertEqual(fulfilling(STRAIT, (MOST - 1,), MOST, offers), ((0,), (1,), (2,)))
        sea = Sea(("a", "b", "c"))
        self.assertEqual(fulfilling(sea, (MOST, 0, 0), MOST, (*offers, ("c", "b", MOST))), ((3,),))
        self.assertEqual(fulfilling(sea, (MOST, MOST - 1, 0), MOST, (*offers, ("c", "b", 1))), ((3,),))

    def test_wishes_for_some_pairs(self):
        offers = (("oak", "elm", 2), ("ash", "yew", 2), ("elm", "yew", 1))
        self.assertEqual(fulfilling(BAY, STAR, (2, 2, 2, 5, 2, 2), offers), ((0,),))
        self.assertEqual(fulfilling(BAY, STAR, (2, 2, 5, 2, 2, 2), offers), ((1,),))
        self.assertEqual(fulfilling(BAY, STAR, (2, 2, 4, 2, 2, 2), offers), ((1,), (2,)))

    def test_agrees_with_strengths(self):
        chance = random.Random(3)
        for sea, bridges, wishes in small(6, 3):
            told = fulfilling(sea, bridges, wishes, offers_for(sea, chance, 4))
            self.assertIs(told == ((),), is_fulfilled(sea, bridges, wishes))

    def test_the_seventh_is_one_too_many(self):
        right = ("ash", "elm", 1)
        self.assertEqual(fulfilling(BAY, RING, 4, (right,) * 6), ((),))
        for many in (7, 8):
            with self.assertRaises(InvalidOffers) as held:
                fulfilling(BAY, RING, 4, (right,) * many)
            self.assertEqual(held.exception.index, 6)


if __name__ == "__main__":
    unittest.main()

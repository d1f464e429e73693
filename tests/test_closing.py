import itertools
import random
import unittest

from sparebridges.closing import closable
from sparebridges.errors import TooWeak
from sparebridges.needed import needed
from sparebridges.seas import Sea
from tests import reference
from tests.samples import BAY, MOST, RING, SEAS, STAR, all_bridges, great, small, wishes_for


class ExamplesTest(unittest.TestCase):
    def test_examples_of_the_document(self):
        told = [closable(BAY, RING, 2, "ash", "elm"), closable(BAY, RING, 4, "ash", "elm"),
                closable(BAY, STAR, 2, "oak", "ash")]
        self.assertEqual(told, [2, 0, 1])


class ClosableTest(unittest.TestCase):
    def assert_closable(self, sea, bridges, wishes, place):
        """So many can be closed, and one more cannot, in both orders of the islands."""
        one, other = sea.pairs[place]
        number = closable(sea, bridges, wishes, one, other)
        self.assertEqual(number, closable(sea, bridges, wishes, other, one))
        self.assertTrue(number.__class__ is int and 0 <= number <= bridges[place], (str(sea), bridges, wishes, number))
        for closed in (number, number + 1):
            left = (*bridges[:place], bridges[place] - closed, *bridges[place + 1:])
            if left[place] >= 0:
                still = reference.fulfil(sea, left, wishes)
                self.assertIs(still, closed == number, (str(sea), bridges, wishes, one, other, closed))
        return number

    def assert_told(self, sea, bridges, wishes):
        """What is told of each pair; True if the wishes are fulfilled."""
        if reference.fulfil(sea, bridges, wishes):
            for place in range(len(sea.pairs)):
                self.assert_closable(sea, bridges, wishes, place)
            return True
        missing = -(-reference.greatest_sum(sea, bridges, wishes) // 2)
        self.assertEqual(missing, needed(sea, bridges, wishes))
        for one, other in itertools.permutations(sea.islands, 2):
            with self.assertRaises(TooWeak) as held:
                closable(sea, bridges, wishes, one, other)
            self.assertEqual(held.exception.given, missing)
        return False

    def test_small_and_great_seas(self):
        told = [self.assert_told(*given) for given in itertools.chain(small(20, 1), great(1, 1))]
        self.assertTrue(min(told.count(True), told.count(False)) > 100)

    def test_wishes_that_are_just_fulfilled_or_nearly(self):
        chance = random.Random(2)
        for sea, bridges in all_bridges(1, 2):
            exact = tuple(min(max(2, has), MOST) for has in reference.strengths(sea, bridges))
            less = tuple(max(2, wish - chance.choice([0, 1, 2, wish // 2])) for wish in exact)
            lone = [2] * len(exact)
            lone[chance.randrange(len(exact))] = chance.choice(exact)
            for wishes in [exact, less, tuple(lone), min(exact)]:
                self.assert_told(sea, bridges, wishes)

    def test_wishes_of_all_kinds(self):
        chance = random.Random(3)
        for sea in SEAS:
            bridges = tuple(chance.randint(MOST // 2, MOST) for _ in sea.pairs)
            for wishes in wishes_for(sea, bridges, chance):
                self.assert_told(sea, bridges, wishes)

    def test_too_weak_tells_how_many_are_needed(self):
        for bridges, wishes, number in [(RING, 5, 2), (STAR, 4, 2), ((0,) * 6, 3, 6), (STAR, (2, 2, 2, 5, 2, 2), 2)]:
            with self.assertRaises(TooWeak) as held:
                closable(BAY, bridges, wishes, "yew", "oak")
            self.assertEqual((held.exception.given, held.exception.given.__class__), (number, int))

    def test_all_of_a_pair(self):
        sea = Sea(("c", "b", "a"))
        self.assertEqual([closable(sea, (7, 0, 2), 2, one, "b") for one in ("c", "a")], [5, 0])
        self.assertEqual(closable(sea, (4, 9, 9), 2, "b", "c"), 4)
        self.assertEqual(closable(sea, (0, 9, 9), 9, "b", "c"), 0)
        self.assertEqual(closable(sea, (MOST, MOST, MOST), (2, MOST, 2), "b", "a"), MOST)
        self.assertEqual(closable(sea, (MOST, MOST, MOST), (2, MOST, 2), "c", "a"), MOST)


if __name__ == "__main__":
    unittest.main()

import itertools
import random
import unittest

from sparebridges.seas import Sea
from sparebridges.strengths import between, cut, is_fulfilled, least_cuts, strength, tree
from tests import reference
from tests.samples import BAY, MOST, RING, STAR, STRAIT, all_bridges, wishes_for

ROUNDS = 12


class ExamplesTest(unittest.TestCase):
    def test_examples_of_the_document(self):
        self.assertEqual(
            [strength(BAY, RING), between(BAY, RING, "ash", "oak"), least_cuts(BAY, STAR), cut(BAY, STAR, "elm", "ash"),
             is_fulfilled(BAY, RING, 4), is_fulfilled(BAY, STAR, (3, 3, 3, 2, 2, 4))],
            [4, 4, (("ash", "elm", "oak"), ("ash", "elm", "yew"), ("ash", "oak", "yew")), ("elm",), True, False])
        self.assertEqual(
            [least_cuts(BAY, (1, 0, 0, 0, 0, 1)), strength(STRAIT, (10 ** 30,)) == 10 ** 30, len(tree(BAY, STAR))],
            [(("ash", "elm"),), True, 3])


class StrengthTest(unittest.TestCase):
    def test_strength_of_the_sea(self):
        for sea, bridges in all_bridges(ROUNDS, 1):
            self.assertEqual(strength(sea, bridges), min(reference.strengths(sea, bridges)), (str(sea), bridges))

    def test_strength_of_two_islands_in_both_orders(self):
        for sea, bridges in all_bridges(ROUNDS, 2):
            for (one, other), number in zip(sea.pairs, reference.strengths(sea, bridges)):
                self.assertEqual(between(sea, bridges, one, other), number, (str(sea), bridges, one, other))
                self.assertEqual(between(sea, bridges, other, one), number, (str(sea), bridges, other, one))

    def test_two_islands_have_a_strength_of_their_own(self):
        sea, bridges = Sea(("c", "b", "a")), (5, 1, 0)
        told = [between(sea, bridges, *pair) for pair in [("c", "b"), ("c", "a"), ("b", "a")]]
        self.assertEqual([told, strength(sea, bridges)], [[5, 1, 1], 1])
        self.assertEqual(between(Sea(tuple("abcde")), (MOST,) * 10, "e", "b"), 4 * MOST)

    def test_every_small_sea_of_three(self):
        sea = Sea(("m", "a", "z"))
        for bridges in itertools.product(range(4), repeat=3):
            told = tuple(between(sea, bridges, one, other) for one, other in sea.pairs)
            self.assertEqual(told, reference.strengths(sea, bridges))
            self.assertEqual(strength(sea, bridges), min(told))


class CutTest(unittest.TestCase):
    def assert_is_cut(self, sea, bridges, one, other):
        lot = cut(sea, bridges, one, other)
        self.assertIn(lot, reference.lots(sea))
        self.assertTrue(one in lot and other not in lot)
        self.assertEqual(reference.leading(sea, bridges, lot), reference.strength_of(sea, bridges, one, other))

    def test_a_cut_for_two_islands_in_both_orders(self):
        for sea, bridges in all_bridges(ROUNDS, 3):
            for one, other in itertools.permutations(sea.islands, 2):
                self.assert_is_cut(sea, bridges, one, other)


class LeastCutsTest(unittest.TestCase):
    def test_exactly_all_least_cuts_in_their_order(self):
        for sea, bridges in all_bridges(ROUNDS, 4):
            least = min(reference.strengths(sea, bridges))
            # The lots stand in this order already: by size, then by the places of their islands.
            cuts = [
                lot for lot in reference.lots(sea)
                if sea.islands[0] in lot and reference.leading(sea, bridges, lot) == least]
            self.assertEqual(least_cuts(sea, bridges), tuple(cuts), (str(sea), bridges))

    def test_order_follows_the_sea_and_not_the_names(self):
        sea = Sea(("d", "c", "b", "a"))
        cuts = (
            ("d",), ("d", "c"), ("d", "b"), ("d", "a"), ("d", "c", "b"), ("d", "c", "a"), ("d", "b", "a"))
        self.assertEqual(least_cuts(sea, (0,) * 6), cuts)


class TreeTest(unittest.TestCase):
    def least_on_way(self, triples, one, other):
        """The least number on each way between two islands, without going back."""
        found, ways = [], [(one, None, ())]
        while ways:
            at, before, numbers = ways.pop()
            if at == other:
                found.append(min(numbers))
                continue
            for index, (near, far, number) in enumerate(triples):
                if at in (near, far) and index != before:
                    ways.append((far if at == near else near, index, numbers + (number,)))
            self.assertLess(len(ways), 100)
        return found

    def test_one_way_and_its_least_number(self):
        for sea, bridges in all_bridges(ROUNDS, 5):
            triples = tree(sea, bridges)
            self.assertEqual([triples.__class__, len(triples)], [tuple, len(sea) - 1])
            self.assertEqual({(triple.__class__, len(triple)) for triple in triples}, {(tuple, 3)})
            for one, other, _ in triples:
                self.assertTrue(one in sea and other in sea and one != other)
            for (one, other), number in zip(sea.pairs, reference.strengths(sea, bridges)):
                self.assertEqual(self.least_on_way(triples, one, other), [number], (str(sea), bridges))


class FulfilledTest(unittest.TestCase):
    def assert_told(self, sea, bridges, wishes):
        told = reference.fulfil(sea, bridges, wishes)
        self.assertIs(is_fulfilled(sea, bridges, wishes), told, (str(sea), bridges, wishes))

    def test_integers_about_the_strength(self):
        for sea, bridges in all_bridges(ROUNDS, 6):
            has = min(reference.strengths(sea, bridges))
            for wish in {2, 3, has - 1, has, has + 1, MOST}:
                if 2 <= wish <= MOST:
                    self.assert_told(sea, bridges, wish)
                    self.assertIs(is_fulfilled(sea, bridges, wish), has >= wish)

    def test_tuples_about_the_strengths(self):
        for sea, bridges in all_bridges(ROUNDS // 3, 7):
            exact = tuple(min(max(2, has), MOST) for has in reference.strengths(sea, bridges))
            self.assert_told(sea, bridges, exact)
            for place, change in itertools.product(range(len(exact)), (-1, 1)):
                wish = min(max(2, exact[place] + change), MOST)
                self.assert_told(sea, bridges, (*exact[:place], wish, *exact[place + 1:]))

    def test_wishes_of_all_kinds(self):
        chance = random.Random(8)
        for sea, bridges in all_bridges(ROUNDS // 3, 8):
            for wishes in wishes_for(sea, bridges, chance):
                self.assert_told(sea, bridges, wishes)

    def test_each_pair_has_its_own_wish(self):
        sea, bridges = Sea(("c", "b", "a")), (5, 2, 0)
        told = [(5, 2, 2), (6, 2, 2), (5, 3, 2), (5, 2, 3), (2, 2, 2)]
        self.assertEqual([is_fulfilled(sea, bridges, wishes) for wishes in told], [True, False, False, False, True])


if __name__ == "__main__":
    unittest.main()

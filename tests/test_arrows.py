import itertools
import random
import unittest

from sparebridges.arrows import arrows_needed, new_arrows
from sparebridges.oneway import most_ways, one_way, ways_of
from sparebridges.seas import Sea
from tests import reference
from tests.samples import BAY, MOST, RING, SEAS, STAR, STRAIT, all_bridges, any_size

# More new one-way bridges than these are not searched for, by how many islands there are.
SEARCHED = {2: 12, 3: 5, 4: 4, 5: 3}


def few(rounds, seed):
    """Seas with few bridges, a one-way table and a low number of ways."""
    chance = random.Random(seed)
    for _ in range(rounds):
        for sea in SEAS:
            bridges = tuple(chance.choice([0, 0, 1, 2, 3]) for _ in sea.pairs)
            table = tuple(chance.randint(0, number) for number in bridges)
            yield sea, bridges, table, chance.choice([0, 1, 1, 2, 3])


def of_any_size(rounds, seed):
    chance = random.Random(seed)
    for sea, bridges in all_bridges(rounds, seed):
        middle = sum(bridges) // len(bridges)
        for table in (
                tuple(chance.randint(0, number) for number in bridges),
                tuple(chance.choice([0, number, number // 2]) for number in bridges)):
            near = max(0, reference.strong_by(sea, bridges, table) + chance.randint(-1, 3))
            yield sea, bridges, table, chance.choice([near, middle, any_size(chance), chance.choice([0, 5, 10 ** 79])])


class ExamplesTest(unittest.TestCase):
    def test_examples_of_the_document(self):
        self.assertEqual(
            [arrows_needed(BAY, STAR, (3, 3, 3, 0, 0, 0), 1), arrows_needed(BAY, RING, (2, 0, 0, 2, 0, 2), 3),
             arrows_needed(STRAIT, (5,), (5,), 2), new_arrows(STRAIT, (5,), (5,), 2)],
            [3, 4, 2, ((0, 2),)])


class ArrowsTest(unittest.TestCase):
    def assert_arrows(self, sea, bridges, table, strong):
        """New arrows are of the right kind, do, and are as many as are told to be needed."""
        new = new_arrows(sea, bridges, table, strong)
        self.assertEqual([new.__class__, len(new)], [tuple, len(bridges)])
        for pair in new:
            self.assertEqual([pair.__class__, len(pair)], [tuple, 2], new)
            self.assertTrue(all(number.__class__ is int and number >= 0 for number in pair), new)
        told = arrows_needed(sea, bridges, table, strong)
        self.assertEqual(told.__class__, int)
        self.assertEqual(sum(there + back for there, back in new), told, (str(sea), bridges, table, strong))
        together = reference.with_arrows(bridges, table, new)
        self.assertGreaterEqual(reference.strong_by(sea, *together), strong, (str(sea), bridges, table, strong))
        return told

    def test_against_a_search(self):
        compared = {many: 0 for many in SEARCHED}
        for sea, bridges, table, strong in few(24, 1):
            most = SEARCHED[len(sea)]
            told = self.assert_arrows(sea, bridges, table, strong)
            found = reference.arrows_by_search(sea, bridges, table, strong, most)
            if found is None:
                self.assertGreater(told, most, (str(sea), bridges, table, strong))
            else:
                self.assertEqual(told, found, (str(sea), bridges, table, strong))
                compared[len(sea)] += told > 0
        self.assertTrue(all(often >= 15 for often in compared.values()), compared)

    def test_against_the_two_sums(self):
        for sea, bridges, table, strong in itertools.chain(few(20, 2), of_any_size(2, 2)):
            told = self.assert_arrows(sea, bridges, table, strong)
            self.assertEqual(told, reference.arrows_by_sums(sea, bridges, table, strong), (str(sea), bridges, table))

    def test_both_sides_are_asked(self):
        sea = Sea(("a", "b", "c", "d", "e"))
        star = (MOST,) * 4 + (0,) * 6
        for strong in (1, 2, 77, MOST):
            # All bridges lead out of the hub, so that out of each other island all new ones must lead; or into it.
            self.assertEqual(self.assert_arrows(sea, star, star, strong), 4 * strong)
            self.assertEqual(self.assert_arrows(sea, star, (0,) * 10, strong), 4 * strong)

    def test_nothing_stands(self):
        for sea in SEAS:
            nothing = (0,) * len(sea.pairs)
            for strong in (0, 1, 2, 9, MOST, 10 ** 79):
                self.assertEqual(self.assert_arrows(sea, nothing, nothing, strong), len(sea) * strong)

    def test_none_are_needed_exactly_if_it_is_so_strong(self):
        for sea, bridges, table, _ in of_any_size(1, 3):
            has = ways_of(sea, bridges, table)
            for strong in {0, has // 2, has}:
                self.assertEqual(self.assert_arrows(sea, bridges, table, strong), 0)
            self.assertGreater(self.assert_arrows(sea, bridges, table, has + 1), 0)

    def test_tables_that_are_as_strong_as_can_be(self):
        for sea, bridges in all_bridges(1, 4):
            most = most_ways(sea, bridges)
            table = one_way(sea, bridges, most)
            self.assertEqual(new_arrows(sea, bridges, table, most), ((0, 0),) * len(bridges))


if __name__ == "__main__":
    unittest.main()

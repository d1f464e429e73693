import itertools
import random
import unittest

from sparebridges.ends import are_ends, cheapest, end_range, new_bridges
from sparebridges.needed import needed
from sparebridges.seas import Sea
from tests import reference
from tests.samples import BAY, MOST, RING, SEAS, STAR, STRAIT, great, small
from tests.values import ANYTHING

# More new bridges than these are not searched for, by how many islands there are.
SEARCHED = {2: 12, 3: 8, 4: 4, 5: 3}
MOST_PRICE = 10 ** 6


def searched(rounds, seed):
    """Small seas with the least number of new bridges and all best ones."""
    for sea, bridges, wishes in small(rounds, seed):
        found = reference.search(sea, bridges, wishes, SEARCHED[len(sea)])
        if found is not None:
            yield sea, bridges, wishes, found[0], found[1]


def prices_for(sea, chance):
    most = chance.choice([1, 3, 100, MOST_PRICE])
    several = tuple(chance.randint(0, most) for _ in sea.islands)
    return chance.choice([
        several, several, (most,) * len(sea), (0,) * len(sea), tuple(chance.choice([0, 0, most]) for _ in sea.islands),
        tuple(chance.choice([MOST_PRICE, MOST_PRICE - 1]) for _ in sea.islands)])


class ExamplesTest(unittest.TestCase):
    def test_examples_of_the_document(self):
        self.assertEqual(
            [end_range(BAY, RING, 5, "ash"), end_range(BAY, STAR, 4, "ash"), end_range(BAY, STAR, 4, "elm"),
             are_ends(BAY, STAR, 4, (0, 1, 1, 2)), are_ends(BAY, STAR, 4, (0, 1, 1, 1))],
            [(1, 1), (0, 1), (1, 2), True, False])
        self.assertEqual(
            [cheapest(BAY, STAR, 4, (5, 3, 2, 4)), new_bridges(BAY, STAR, 4, (0, 2, 0, 0)),
             new_bridges(STRAIT, (3,), 8)],
            [(11, (0, 1, 2, 1)), None, (5,)])


class EndsCase(unittest.TestCase):
    def assert_new_bridges(self, sea, bridges, wishes, new, ends=None):
        """New bridges are of the right kind, do, and have these ends."""
        self.assertEqual([new.__class__, len(new)], [tuple, len(sea.pairs)], (str(sea), bridges, wishes, ends))
        self.assertTrue(all(number.__class__ is int and number >= 0 for number in new), new)
        self.assertTrue(reference.do(sea, bridges, wishes, new), (str(sea), bridges, wishes, new))
        if ends is not None:
            self.assertEqual(reference.ends_of(sea, new), ends)


class EndRangeTest(EndsCase):
    def test_against_all_best_new_bridges(self):
        for sea, bridges, wishes, _, best in searched(40, 1):
            all_ends = [reference.ends_of(sea, new) for new in best]
            for at, island in enumerate(sea.islands):
                numbers = {ends[at] for ends in all_ends}
                told = end_range(sea, bridges, wishes, island)
                self.assertEqual(told, (min(numbers), max(numbers)), (str(sea), bridges, wishes, island))
                self.assertEqual(told.__class__, tuple)
                self.assertEqual(numbers, set(range(min(numbers), max(numbers) + 1)))

    def best_ends_with(self, sea, bridges, wishes, at, number):
        """Ends of best new bridges with this number at one island, looked for by taking away from all others."""
        total = 2 * needed(sea, bridges, wishes)
        lacks = {lot: reference.lack(sea, bridges, wishes, lot) for lot in reference.lots(sea)}
        ends = {island: total for island in sea.islands}
        ends[sea.islands[at]] = number
        for island in sea.islands:
            if island != sea.islands[at]:
                spare = [sum(ends[one] for one in lot) - lacks[lot] for lot in lacks if island in lot]
                ends[island] -= min([*spare, ends[island]])
        missing = total - sum(ends.values())
        for island in sea.islands:
            if island != sea.islands[at]:
                more = min(missing, total // 2 - ends[island])
                ends[island] += more
                missing -= more
        return tuple(ends.values()), missing

    def test_great_numbers_against_points_10_and_11(self):
        chance = random.Random(2)
        for sea, bridges, wishes in great(3, 2):
            number = needed(sea, bridges, wishes)
            at = chance.randrange(len(sea))
            island, others = sea.islands[at], sea.islands[:at] + sea.islands[at + 1:]
            least, most = end_range(sea, bridges, wishes, island)
            # The lot of the island alone, and lots of the others, leave no more room than this.
            alone = reference.lack(sea, bridges, wishes, (island,))
            asked = reference.greatest_sum(sea, bridges, wishes, others)
            self.assertEqual((least, most), (max(0, alone), min(number, 2 * number - asked)))
            for chosen in {least, most, chance.randint(least, most), (least + most) // 2}:
                ends, missing = self.best_ends_with(sea, bridges, wishes, at, chosen)
                self.assertEqual((ends[at], sum(ends), missing), (chosen, 2 * number, 0))
                self.assertTrue(reference.ends_do(sea, bridges, wishes, ends), (str(sea), bridges, wishes, ends))

    def test_nothing_is_needed(self):
        for sea in SEAS:
            for island in sea.islands:
                self.assertEqual(end_range(sea, (MOST,) * len(sea.pairs), 2, island), (0, 0))

    def test_a_lonely_island_and_an_odd_sum(self):
        sea = Sea(("c", "b", "a"))
        told = [end_range(sea, (0, 0, 0), 3, island) for island in sea.islands]
        self.assertEqual(told, [(3, 4)] * 3)
        told = [end_range(sea, (MOST, 0, 0), MOST, island) for island in sea.islands]
        self.assertEqual(told, [(0, MOST), (0, MOST), (MOST, MOST)])


class AreEndsTest(EndsCase):
    def test_against_a_search(self):
        for sea, bridges, wishes, number, _ in searched(16, 3):
            for total in range(number + 2):
                if total <= SEARCHED[len(sea)]:
                    found = {reference.ends_of(sea, new) for new in reference.all_that_do(sea, bridges, wishes, total)}
                    for ends in reference.sums(len(sea), 2 * total):
                        self.assertIs(are_ends(sea, bridges, wishes, ends), ends in found, (str(sea), bridges, ends))
                    for ends in reference.sums(len(sea), 2 * total + 1):
                        self.assertIs(are_ends(sea, bridges, wishes, ends), False)

    def test_great_numbers_against_point_11(self):
        chance, told = random.Random(4), []
        for sea, bridges, wishes in great(3, 4):
            ends = list(reference.ends_of(sea, new_bridges(sea, bridges, wishes)))
            for _ in range(4):
                near = tuple(max(0, number + chance.choice([0, 0, -1, 1, 2])) for number in ends)
                told.append(are_ends(sea, bridges, wishes, near))
                self.assertIs(told[-1], reference.ends_do(sea, bridges, wishes, near), (str(sea), bridges, near))
        self.assertTrue(min(told.count(True), told.count(False)) > 100)

    def test_anything_else_is_no_error(self):
        for sea in SEAS:
            bridges, right = (1,) * len(sea.pairs), (4,) * len(sea)
            self.assertIs(are_ends(sea, bridges, 2, right), True)
            others = [list(right), right[1:], right + (4,), right + right, str(right), {4: 4}, sea]
            for value in ANYTHING + others:
                self.assertIs(are_ends(sea, bridges, 2, value), False)
            for place in range(len(sea)):
                for bad in [*ANYTHING, -4, -1, -2, True, False, "4", None, [4], (4,), sea]:
                    if not (bad.__class__ is int and bad >= 0):
                        value = right[:place] + (bad,) + right[place + 1:]
                        self.assertIs(are_ends(sea, bridges, 2, value), False)

    def test_negative_numbers_that_would_add_up(self):
        sea = Sea(("a", "b", "c"))
        self.assertIs(are_ends(sea, (9, 9, 9), 2, (-1, -1, 2)), False)
        self.assertIs(are_ends(sea, (9, 9, 9), 2, (0, 0, 0)), True)
        self.assertIs(are_ends(sea, (9, 9, 9), 2, (False, 0, 0)), False)
        self.assertIs(are_ends(sea, (9, 9, 9), 2, (True, 1, 0)), False)

    def test_negative_numbers_where_no_lot_lacks_anything(self):
        for value in [(-1, 3, 3, 3), (3, 3, -1, 3), (-1, 3, 3, 4), (0, 3, 3, -2), (4, 4, 4, -2)]:
            self.assertIs(are_ends(BAY, (99,) * 6, 2, value), False)
            self.assertIs(are_ends(BAY, (99,) * 6, 2, tuple(max(0, number) * 2 for number in value)), True)

    def test_more_than_all_others_together(self):
        sea = Sea(("a", "b", "c"))
        tried = [(2, 1, 1), (3, 1, 0), (0, 2, 0), (10 ** 79, 10 ** 79, 0)]
        self.assertEqual([are_ends(sea, (9, 9, 9), 2, ends) for ends in tried], [True, False, False, True])


class CheapestTest(EndsCase):
    def test_against_a_search_through_all_new_bridges(self):
        chance = random.Random(5)
        for sea, bridges, wishes, number, _ in searched(16, 5):
            # Some more than are needed are tried, too, since the cheapest ones could be more.
            more = 1 if len(sea) == 5 else 2
            found = {
                reference.ends_of(sea, new) for total in range(number, number + more + 1)
                for new in reference.all_that_do(sea, bridges, wishes, total)}
            for _ in range(4):
                prices = prices_for(sea, chance)
                price, ends = cheapest(sea, bridges, wishes, prices)
                self.assertEqual(price, min(self.price(prices, one) for one in found), (str(sea), bridges, prices))
                self.assertEqual(price, self.price(prices, ends))
                self.assert_ends(sea, bridges, wishes, ends)

    def price(self, prices, ends):
        return sum(price * number for price, number in zip(prices, ends))

    def assert_ends(self, sea, bridges, wishes, ends):
        self.assertEqual([ends.__class__, len(ends)], [tuple, len(sea)])
        self.assertTrue(all(number.__class__ is int and number >= 0 for number in ends))
        self.assertTrue(reference.ends_do(sea, bridges, wishes, ends), (str(sea), bridges, wishes, ends))

    def least_price(self, sea, bridges, wishes, prices):
        """No ends cost less: for each price, the dearer islands have at least what the lots of them lack together."""
        dearest = sorted(zip(prices, sea.islands), reverse=True)
        steps = [price - below for (price, _), (below, _) in zip(dearest, [*dearest[1:], (0, None)])]
        least = 0
        for size, step in enumerate(steps, 1):
            islands = tuple(island for island in sea.islands if island in [one for _, one in dearest[:size]])
            ends = reference.greatest_sum(sea, bridges, wishes, islands)
            # All ends together are an even number.
            least += step * (ends + ends % 2 if size == len(sea) else ends)
        return least

    def test_great_numbers_against_point_11(self):
        chance = random.Random(6)
        for sea, bridges, wishes in great(3, 6):
            prices = prices_for(sea, chance)
            price, ends = cheapest(sea, bridges, wishes, prices)
            self.assertEqual(price, self.least_price(sea, bridges, wishes, prices), (str(sea), bridges, wishes, prices))
            self.assertEqual(price, self.price(prices, ends))
            self.assert_ends(sea, bridges, wishes, ends)
            self.assertEqual(cheapest(sea, bridges, wishes, prices).__class__, tuple)

    def test_a_price_of_nothing(self):
        for sea, bridges, wishes in great(1, 7):
            price, ends = cheapest(sea, bridges, wishes, (0,) * len(sea))
            self.assertEqual(price, 0)
            self.assert_ends(sea, bridges, wishes, ends)

    def test_nothing_is_needed(self):
        for sea in SEAS:
            told = cheapest(sea, (MOST,) * len(sea.pairs), 2, (7,) * len(sea))
            self.assertEqual(told, (0, (0,) * len(sea)))

    def test_the_greatest_price(self):
        told = cheapest(STRAIT, (0,), MOST, (MOST_PRICE, MOST_PRICE))
        self.assertEqual(told, (2 * MOST * MOST_PRICE, (MOST, MOST)))
        price, ends = cheapest(Sea(("a", "b", "c")), (0, 0, 0), 3, (MOST_PRICE, 1, MOST_PRICE))
        self.assertEqual((price, ends), (6 * MOST_PRICE + 4, (3, 4, 3)))


class NewBridgesTest(EndsCase):
    def assert_best(self, sea, bridges, wishes, new):
        self.assert_new_bridges(sea, bridges, wishes, new)
        self.assertEqual(sum(new), needed(sea, bridges, wishes), (str(sea), bridges, wishes, new))

    def test_best_ones(self):
        for sea, bridges, wishes in itertools.chain(small(30, 8), great(6, 8)):
            new = new_bridges(sea, bridges, wishes)
            self.assert_best(sea, bridges, wishes, new)
            self.assertEqual(new_bridges(sea, bridges, wishes, None), new)
            self.assertEqual(new_bridges(sea, bridges, wishes, ends=None), new)

    def test_all_small_ends_against_a_search(self):
        for sea, bridges, wishes, number, _ in searched(12, 9):
            for total in range(number + 2):
                if total <= SEARCHED[len(sea)]:
                    found = {reference.ends_of(sea, new) for new in reference.all_that_do(sea, bridges, wishes, total)}
                    for ends in reference.sums(len(sea), 2 * total):
                        self.assert_with(sea, bridges, wishes, ends, ends in found)

    def assert_with(self, sea, bridges, wishes, ends, there_are):
        """With these ends there are some, which is so, or there are none."""
        new = new_bridges(sea, bridges, wishes, ends)
        self.assertEqual(new_bridges(sea, bridges, wishes, ends=ends), new)
        if there_are:
            self.assertIsNotNone(new, (str(sea), bridges, wishes, ends))
            self.assert_new_bridges(sea, bridges, wishes, new, ends)
        else:
            self.assertIsNone(new, (str(sea), bridges, wishes, ends))

    def test_great_ends_that_need_not_be_best(self):
        chance, told = random.Random(10), []
        for sea, bridges, wishes in great(3, 10):
            best = reference.ends_of(sea, new_bridges(sea, bridges, wishes))
            for _ in range(3):
                more = chance.choice([1, 3, 10 ** 9, MOST, 10 ** 78])
                ends = tuple(number + chance.choice([0, chance.randint(0, more)]) for number in best)
                told.append(reference.ends_do(sea, bridges, wishes, ends))
                self.assert_with(sea, bridges, wishes, ends, told[-1])
            less = tuple(max(0, number - chance.choice([0, 0, 1])) for number in best)
            told.append(reference.ends_do(sea, bridges, wishes, less))
            self.assert_with(sea, bridges, wishes, less, told[-1])
        self.assertTrue(min(told.count(True), told.count(False)) > 100)

    def test_ends_with_an_odd_sum(self):
        for sea in SEAS:
            bridges, ends = (5,) * len(sea.pairs), (2, 2) + (0,) * (len(sea) - 2)
            self.assert_with(sea, bridges, 2, ends, True)
            for place in range(len(sea)):
                odd = ends[:place] + (ends[place] + 1,) + ends[place + 1:]
                self.assert_with(sea, bridges, 2, odd, False)

    def test_one_island_with_more_than_all_others_together(self):
        for sea in SEAS:
            bridges, rest = (5,) * len(sea.pairs), (MOST,) * (len(sea) - 1)
            for place in range(len(sea)):
                for many, there_are in [(sum(rest), True), (sum(rest) + 2, False), (10 ** 79, False)]:
                    self.assert_with(sea, bridges, 2, rest[:place] + (many,) + rest[place:], there_are)

    def test_a_lot_with_fewer_ends_than_it_lacks(self):
        for ends in [(0, 2, 1, 1), (2, 2, 2, 2)]:
            self.assert_with(BAY, STAR, 4, ends, True)
        for ends in [(4, 0, 2, 2), (2, 2, 2, 0)]:
            self.assert_with(BAY, STAR, 4, ends, False)
        self.assert_with(BAY, (9, 0, 0, 0, 0, 9), 3, (4, 0, 0, 4), True)
        self.assert_with(BAY, (9, 0, 0, 0, 0, 9), 3, (4, 4, 0, 0), False)

    def test_no_ends_at_all(self):
        self.assertEqual(new_bridges(BAY, RING, 4, (0, 0, 0, 0)), (0, 0, 0, 0, 0, 0))
        self.assertIsNone(new_bridges(BAY, RING, 5, (0, 0, 0, 0)))
        self.assertEqual(new_bridges(BAY, RING, 4), (0, 0, 0, 0, 0, 0))


if __name__ == "__main__":
    unittest.main()

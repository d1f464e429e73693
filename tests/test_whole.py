"""What the parts of the program tell agrees."""

import itertools
import random
import unittest

from sparebridges.arrows import arrows_needed, new_arrows
from sparebridges.books import Book
from sparebridges.certificates import certify_arrows, certify_between, certify_ends, certify_needed, certify_ways
from sparebridges.checker import accepts
from sparebridges.closing import closable
from sparebridges.coasts import Coast
from sparebridges.ends import are_ends, cheapest, end_range, new_bridges
from sparebridges.errors import Broken, TooWeak
from sparebridges.growth import grown
from sparebridges.needed import for_all, joined, needed
from sparebridges.offers import fulfilling
from sparebridges.oneway import in_range, ins_of, most_ways, one_way, ways_of
from sparebridges.strengths import between, cut, is_fulfilled, least_cuts, strength, tree
from tests.samples import MOST, all_bridges, great, small


def ends_of(sea, new):
    return tuple(sum(number for pair, number in zip(sea.pairs, new) if island in pair) for island in sea.islands)


def together(bridges, new):
    return tuple(one + other for one, other in zip(bridges, new))


def value_at(lines, step):
    _, base, slope = [line for line in lines if line[0] <= step][-1]
    return base + slope * step


class StrengthsTest(unittest.TestCase):
    def test_strengths_cuts_and_the_tree(self):
        for sea, bridges in all_bridges(3, 1):
            told = {pair: between(sea, bridges, *pair) for pair in itertools.permutations(sea.islands, 2)}
            self.assertEqual(strength(sea, bridges), min(told.values()))
            self.assertEqual(min(number for _, _, number in tree(sea, bridges)), strength(sea, bridges))
            for one, other, number in tree(sea, bridges):
                self.assertEqual(number, told[one, other])
            for (one, other), number in told.items():
                parted = cut(sea, bridges, one, other)
                if number == strength(sea, bridges):
                    rest = tuple(island for island in sea.islands if island not in parted)
                    self.assertIn(parted if sea.islands[0] in parted else rest, least_cuts(sea, bridges))
            self.assertIs(joined(sea, bridges) == 0, strength(sea, bridges) > 0)

    def test_fulfilled_needed_and_closable(self):
        for sea, bridges, wishes in itertools.chain(small(12, 2), great(2, 2)):
            missing, (one, other) = needed(sea, bridges, wishes), sea.pairs[-1]
            self.assertIs(missing == 0, is_fulfilled(sea, bridges, wishes))
            if missing:
                with self.assertRaises(TooWeak) as held:
                    closable(sea, bridges, wishes, one, other)
                self.assertEqual(held.exception.given, missing)
            else:
                number = closable(sea, bridges, wishes, one, other)
                coast = Coast(sea, bridges, wishes)
                for many in (number, number + 1):
                    if 0 < many <= bridges[-1]:
                        lacking = coast.tried(lambda held: held.fall(one, other, many) or held.lacking())
                        self.assertIs(lacking == 0, many == number)


class NewBridgesTest(unittest.TestCase):
    def test_new_bridges_and_their_ends(self):
        for sea, bridges, wishes in itertools.chain(small(12, 3), great(2, 3)):
            new = new_bridges(sea, bridges, wishes)
            ends, number = ends_of(sea, new), needed(sea, bridges, wishes)
            self.assertEqual([sum(new), sum(ends)], [number, 2 * number])
            self.assertIs(are_ends(sea, bridges, wishes, ends), True)
            self.assertEqual(ends_of(sea, new_bridges(sea, bridges, wishes, ends)), ends)
            for island, end in zip(sea.islands, ends):
                least, most = end_range(sea, bridges, wishes, island)
                self.assertTrue(least <= end <= most)
            # Where all ends cost the same, the fewest are the cheapest.
            price, ends = cheapest(sea, bridges, wishes, (3,) * len(sea))
            self.assertEqual([price, sum(ends)], [6 * number, 2 * number])
            self.assertIs(are_ends(sea, bridges, wishes, ends), True)

    def test_a_price_at_one_island_alone(self):
        for sea, bridges, wishes in itertools.chain(small(6, 4), great(1, 4)):
            for at, island in enumerate(sea.islands):
                prices = tuple(int(index == at) for index in range(len(sea)))
                self.assertEqual(
                    cheapest(sea, bridges, wishes, prices)[0], end_range(sea, bridges, wishes, island)[0])

    def test_offers_of_what_is_needed(self):
        for sea, bridges, wishes in small(12, 5):
            new = new_bridges(sea, bridges, wishes)
            offers = tuple((*pair, number) for pair, number in zip(sea.pairs, new) if number > 0)
            if len(offers) <= 6:
                # With one of them fewer there are too few.
                self.assertEqual(fulfilling(sea, bridges, wishes, offers), (tuple(range(len(offers))),))

    def test_lines_and_single_values(self):
        chance = random.Random(6)
        for sea, bridges in all_bridges(2, 6):
            lines = for_all(sea, bridges)
            begins = [begin for begin, _, _ in lines if begin < MOST]
            for wish in {2, 3, MOST, chance.randint(2, MOST), *begins, *[begin + 1 for begin in begins]}:
                self.assertEqual((value_at(lines, wish) + 1) // 2, needed(sea, bridges, wish))
                self.assertIs(value_at(lines, wish) == 0, wish <= strength(sea, bridges))

    def test_growth_and_single_values(self):
        chance = random.Random(7)
        for sea, bridges in all_bridges(2, 7):
            start, growth = tuple(number % 100 for number in bridges), tuple(chance.randint(0, 9) for _ in bridges)
            lines = grown(sea, start, growth)
            for step in {0, 1, 10, 10 ** 9, *[begin for begin, _, _ in lines]}:
                now = tuple(number + step * more for number, more in zip(start, growth))
                self.assertEqual(value_at(lines, step), strength(sea, now))
                self.assertEqual(value_at(lines, step) // 2, most_ways(sea, now))


class OneWayTest(unittest.TestCase):
    def test_tables_and_their_ranges(self):
        for sea, bridges in all_bridges(2, 8):
            most = most_ways(sea, bridges)
            self.assertEqual(most, strength(sea, bridges) // 2)
            for strong in {0, most // 2, most}:
                table = one_way(sea, bridges, strong)
                self.assertGreaterEqual(ways_of(sea, bridges, table), strong)
                ins = ins_of(sea, bridges, table)
                self.assertEqual(ins_of(sea, bridges, one_way(sea, bridges, strong, ins)), ins)
                for island, number in zip(sea.islands, ins):
                    least, greatest = in_range(sea, bridges, strong, island)
                    self.assertTrue(least <= number <= greatest)

    def test_tables_and_new_one_way_bridges(self):
        for sea, bridges in all_bridges(2, 9):
            most = most_ways(sea, bridges)
            self.assertEqual(arrows_needed(sea, bridges, one_way(sea, bridges, most), most), 0)
            table = tuple(number // 3 for number in bridges)
            has = ways_of(sea, bridges, table)
            self.assertEqual(arrows_needed(sea, bridges, table, has), 0)
            new = new_arrows(sea, bridges, table, has + 2)
            self.assertEqual(sum(map(sum, new)), arrows_needed(sea, bridges, table, has + 2))
            more = together(bridges, map(sum, new))
            if max(more) <= MOST:
                led = together(table, [there for there, _ in new])
                self.assertEqual(ways_of(sea, more, led), has + 2)
                self.assertEqual(arrows_needed(sea, more, led, has + 2), 0)


class ObjectsTest(unittest.TestCase):
    def test_coasts_and_functions(self):
        for sea, bridges, wishes in itertools.chain(small(12, 10), great(1, 10)):
            coast = Coast(sea, bridges, wishes)
            missing = coast.lacking()
            self.assertEqual(missing, needed(sea, bridges, wishes))
            new = new_bridges(sea, bridges, wishes)
            if max(together(bridges, new)) <= MOST:
                for (one, other), number in zip(sea.pairs, new):
                    for many in [number] if number > 0 else []:
                        coast.build(other, one, many)
                self.assertEqual([coast.lacking(), coast.built, coast.bridges], [0, missing, together(bridges, new)])
                self.assertIs(is_fulfilled(sea, coast.bridges, wishes), True)

    def test_books_and_functions(self):
        for sea, bridges, wishes in itertools.chain(small(6, 11), great(1, 11)):
            book, (one, other) = Book(), sea.pairs[0]
            book["s"] = sea
            for head, number, more in [
                    (("strong", "s", bridges, one, other), between(sea, bridges, one, other), 1),
                    (("needed", "s", bridges, wishes), needed(sea, bridges, wishes), -1),
                    (("ends", "s", bridges, wishes, one), end_range(sea, bridges, wishes, one)[1], -1),
                    (("ways", "s", bridges), most_ways(sea, bridges), 1)]:
                book.wish((*head, number))
                if number + more >= 0:
                    self.assertRaises(Broken, book.wish, (*head, number + more))
            self.assertEqual(len(book.wishes), 4)

    def test_claims_and_functions(self):
        for sea, bridges, wishes in itertools.chain(small(6, 12), great(1, 12)):
            one, other = sea.islands[-1], sea.islands[0]
            table, most = tuple(number // 2 for number in bridges), most_ways(sea, bridges)
            for (claim, paper), number in [
                    (certify_between(sea, bridges, one, other), between(sea, bridges, one, other)),
                    (certify_needed(sea, bridges, wishes), needed(sea, bridges, wishes)),
                    (certify_ends(sea, bridges, wishes, one), end_range(sea, bridges, wishes, one)[0]),
                    (certify_ways(sea, bridges, most), most), (certify_ways(sea, bridges, most + 1), most + 1),
                    (certify_arrows(sea, bridges, table, most), arrows_needed(sea, bridges, table, most))]:
                self.assertEqual(claim[-1], number)
                self.assertIs(accepts(claim, paper), True)
            parted, ways = certify_between(sea, bridges, one, other)[1]
            self.assertEqual(parted, cut(sea, bridges, one, other))
            new, _ = certify_needed(sea, bridges, wishes)[1]
            self.assertEqual(sum(new), needed(sea, bridges, wishes))

    def test_what_is_returned_are_certificates(self):
        for sea, bridges, wishes in small(6, 13):
            most, text = most_ways(sea, bridges), str(sea)
            self.assertIs(accepts(("ways", text, bridges, most), one_way(sea, bridges, most)), True)
            for lot in least_cuts(sea, bridges):
                self.assertIs(accepts(("no ways", text, bridges, most + 1), lot), True)


if __name__ == "__main__":
    unittest.main()

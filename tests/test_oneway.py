import itertools
import math
import random
import unittest

from sparebridges.errors import TooWeak
from sparebridges.oneway import in_range, ins_of, most_ways, one_way, ways_of
from sparebridges.seas import Sea
from sparebridges.strengths import strength
from tests import reference
from tests.samples import BAY, MOST, RING, SEAS, STAR, STRAIT, all_bridges, shapes


def searched(rounds, seed, most=400):
    """Seas with few bridges, and all their one-way tables with how strong these are and their ways in."""
    chance = random.Random(seed)
    for _ in range(rounds):
        for sea in SEAS:
            bridges = tuple(chance.choice([0, 1, 1, 2, chance.randint(0, 4)]) for _ in sea.pairs)
            if math.prod(number + 1 for number in bridges) <= most:
                yield sea, bridges, [
                    (reference.strong_by(sea, bridges, table), reference.ways_in(sea, bridges, table))
                    for table in reference.tables(bridges)]


def strengths_for(sea, bridges, chance):
    """Some numbers of ways for which there are tables, the greatest among them."""
    most = most_ways(sea, bridges)
    return sorted({0, min(1, most), most // 2, max(0, most - 1), most, chance.randint(0, most)})


class ExamplesTest(unittest.TestCase):
    def test_examples_of_the_document(self):
        there = (2, 0, 0, 2, 0, 2)
        self.assertEqual(
            [most_ways(BAY, RING), ways_of(BAY, RING, there), ins_of(BAY, RING, there),
             ways_of(BAY, RING, (1, 0, 1, 1, 0, 1)), in_range(BAY, STAR, 1, "ash"), in_range(BAY, RING, 2, "elm")],
            [2, 2, (2, 2, 2, 2), 2, (3, 6), (2, 2)])
        self.assertEqual(
            [one_way(STRAIT, (5,), 2, (3, 2)), one_way(STRAIT, (5,), 2, (4, 1)), in_range(STRAIT, (5,), 1, "b")],
            [(2,), None, (1, 4)])
        with self.assertRaises(TooWeak) as held:
            one_way(BAY, STAR, 2)
        self.assertEqual(held.exception.given, 1)


class OneWayCase(unittest.TestCase):
    def assert_table(self, sea, bridges, strong, table, ins=None):
        """A table is of the right kind, so strong, and has these ways in."""
        self.assertEqual([table.__class__, len(table)], [tuple, len(bridges)], (str(sea), bridges, strong, ins))
        for there, number in zip(table, bridges):
            self.assertTrue(there.__class__ is int and 0 <= there <= number, (bridges, table))
        self.assertGreaterEqual(reference.strong_by(sea, bridges, table), strong, (str(sea), bridges, table))
        if ins is not None:
            self.assertEqual(reference.ways_in(sea, bridges, table), ins, (str(sea), bridges, strong))


class MostWaysTest(OneWayCase):
    def test_against_all_tables(self):
        for sea, bridges, told in searched(12, 1):
            self.assertEqual(most_ways(sea, bridges), max(strong for strong, _ in told), (str(sea), bridges))

    def test_half_of_what_leads_out_of_each_lot(self):
        for sea, bridges in all_bridges(8, 2):
            most = most_ways(sea, bridges)
            out = [reference.leading(sea, bridges, lot) for lot in reference.lots(sea)]
            self.assertTrue(2 * most <= min(out) < 2 * most + 2, (str(sea), bridges))
            self.assertEqual(most, strength(sea, bridges) // 2)


class OneWayTest(OneWayCase):
    def test_all_small_ways_in_against_all_tables(self):
        none = 0
        for sea, bridges, told in searched(6, 3, 160):
            for strong in range(most_ways(sea, bridges) + 1):
                found = {ins for has, ins in told if has >= strong}
                for ins in reference.sums(len(sea), sum(bridges)) if sum(bridges) < 8 else sorted(found):
                    table = one_way(sea, bridges, strong, ins)
                    self.assertIs(table is None, ins not in found, (str(sea), bridges, strong, ins))
                    none += table is None
                    if table is not None:
                        self.assert_table(sea, bridges, strong, table, ins)
        self.assertGreater(none, 1000)

    def test_tables_that_are_so_strong(self):
        chance = random.Random(4)
        for sea, bridges in all_bridges(4, 4):
            for strong in strengths_for(sea, bridges, chance):
                table = one_way(sea, bridges, strong)
                self.assert_table(sea, bridges, strong, table)
                self.assertEqual(one_way(sea, bridges, strong, None), table)
                self.assertEqual(one_way(sea, bridges, strong, ins=None), table)
                self.assertEqual(one_way(bridges=bridges, strong=strong, sea=sea), table)

    def test_every_choice_of_pairs_with_an_odd_number(self):
        for sea, number in itertools.product(SEAS[::2], (0, 2, MOST - 2)):
            for odd in itertools.product((0, 1), repeat=len(sea.pairs)):
                bridges = tuple(number + more for more in odd)
                most = most_ways(sea, bridges)
                self.assert_table(sea, bridges, most, one_way(sea, bridges, most))

    def near(self, sea, ins, chance):
        """Ways in that differ from these a little, or a lot, with the same sum or not."""
        near = list(ins)
        for _ in range(chance.randint(1, 3)):
            one, other = chance.sample(range(len(sea)), 2)
            moved = chance.choice([1, near[one], chance.randint(0, near[one])])
            near[one], near[other] = max(0, near[one] - moved), near[other] + min(moved, near[one])
        if chance.random() < 0.1:
            near[chance.randrange(len(sea))] += 1
        return tuple(near)

    def test_great_ways_in_against_point_13(self):
        chance, told = random.Random(5), []
        for sea, bridges in all_bridges(3, 5):
            for strong in strengths_for(sea, bridges, chance):
                ins = ins_of(sea, bridges, one_way(sea, bridges, strong))
                self.assert_table(sea, bridges, strong, one_way(sea, bridges, strong, ins), ins)
                for _ in range(2):
                    near = self.near(sea, ins, chance)
                    told.append(reference.ways_in_do(sea, bridges, strong, near))
                    table = one_way(sea, bridges, strong, near)
                    self.assertEqual(one_way(sea, bridges, strong, ins=near), table)
                    self.assertIs(table is not None, told[-1], (str(sea), bridges, strong, near))
                    if told[-1]:
                        self.assert_table(sea, bridges, strong, table, near)
        self.assertTrue(min(told.count(True), told.count(False)) > 300, told.count(True))

    def test_sums_that_are_not_all_bridges(self):
        for ins in [(0, 0, 0, 0), (2, 2, 2, 1), (2, 2, 2, 3), (8, 8, 8, 8), (10 ** 79,) * 4]:
            self.assertIsNone(one_way(BAY, RING, 0, ins))

    def test_lots_with_just_as_many_ways_in_as_they_need(self):
        sea = Sea(("a", "b", "c", "d"))
        bridges = (4, 0, 0, 1, 0, 4)
        for ins in [(4, 0, 4, 1), (4, 0, 1, 4), (0, 4, 5, 0), (0, 5, 0, 4), (2, 2, 2, 3)]:
            self.assert_table(sea, bridges, 0, one_way(sea, bridges, 0, ins), ins)
        for ins in [(3, 0, 3, 3), (4, 4, 0, 1), (0, 3, 4, 2), (5, 0, 4, 0), (0, 6, 0, 3), (4, 0, 0, 5)]:
            self.assertIsNone(one_way(sea, bridges, 0, ins))

    def test_too_weak_tells_the_greatest(self):
        chance = random.Random(6)
        for sea, bridges in all_bridges(1, 6):
            most = most_ways(sea, bridges)
            ins = tuple(chance.randint(0, 3) for _ in sea.islands)
            for strong in (most + 1, most + 2, 2 * most + 9, 10 ** 79):
                for call in (
                        lambda: one_way(sea, bridges, strong), lambda: one_way(sea, bridges, strong, ins),
                        lambda: in_range(sea, bridges, strong, sea.islands[-1])):
                    with self.assertRaises(TooWeak) as held:
                        call()
                    self.assertEqual((held.exception.given, held.exception.given.__class__), (most, int))


class InRangeTest(OneWayCase):
    def test_against_all_tables(self):
        wide = 0
        for sea, bridges, told in searched(24, 7):
            for strong in range(most_ways(sea, bridges) + 1):
                for at, island in enumerate(sea.islands):
                    numbers = {ins[at] for has, ins in told if has >= strong}
                    found = in_range(sea, bridges, strong, island)
                    self.assertEqual(found, (min(numbers), max(numbers)), (str(sea), bridges, strong, island))
                    self.assertEqual([found.__class__, *[number.__class__ for number in found]], [tuple, int, int])
                    # Each number between them comes.
                    self.assertEqual(numbers, set(range(found[0], found[1] + 1)))
                    wide += strong > 0 and found[0] + 1 < found[1]
        self.assertGreater(wide, 50)

    def moved(self, sea, bridges, strong, table, island, number):
        """Leads bridges of a table the other way, along ways into or out of an island, until so many lead in there."""
        while True:
            missing = number - reference.ways_in(sea, bridges, table)[sea.islands.index(island)]
            if missing == 0:
                return table
            steps = [self.turned(sea, bridges, strong, table, island, other, missing) for other in sea.islands]
            steps = [step for step in steps if step is not None]
            if not steps:
                return None
            table = steps[0]

    def turned(self, sea, bridges, strong, table, island, other, missing):
        """A table with more (or fewer) ways in at the island and as many fewer (or more) at another one, if any."""
        if other == island:
            return None
        ins = dict(zip(sea.islands, reference.ways_in(sea, bridges, table)))
        gains, loses = (island, other) if missing > 0 else (other, island)
        spare = []
        for lot in reference.lots(sea):
            if loses in lot and gains not in lot:
                spare.append(reference.leading_in(sea, bridges, table, lot) - strong)
        number = min([abs(missing), *spare])
        if number == 0:
            return None
        ins[gains], ins[loses] = ins[gains] + number, ins[loses] - number
        return one_way(sea, bridges, strong, tuple(ins.values()))

    def test_great_numbers_come_and_no_others(self):
        chance = random.Random(8)
        for sea, bridges in all_bridges(1, 8):
            strong = chance.choice(strengths_for(sea, bridges, chance))
            table, island = one_way(sea, bridges, strong), chance.choice(sea.islands)
            least, most = in_range(sea, bridges, strong, island)
            for number in {least, most, chance.randint(least, most), (least + most) // 2}:
                found = self.moved(sea, bridges, strong, table, island, number)
                self.assertIsNotNone(found, (str(sea), bridges, strong, island, number))
                self.assert_table(sea, bridges, strong, found)
                self.assertEqual(ins_of(sea, bridges, found)[sea.islands.index(island)], number)
            # Where nothing can be turned any more, no table has fewer, or more: what can be reached is all there is.
            for number in (least - 1, most + 1):
                self.assertIsNone(self.moved(sea, bridges, strong, table, island, number), (str(sea), bridges, island))

    def test_no_ways_are_asked_for(self):
        for sea in SEAS:
            for bridges in shapes(sea, 3):
                for island in sea.islands:
                    told = in_range(sea, bridges, 0, island)
                    self.assertEqual(told, (0, reference.leading(sea, bridges, (island,))))

    def test_the_parts_around_an_island(self):
        sea = Sea(("hub", "a", "b", "c", "d"))
        for number in (2, 5, MOST):
            star = (number,) * 4 + (0,) * 6
            most = number // 2
            self.assertEqual(in_range(sea, star, most, "hub"), (4 * most, 4 * number - 4 * most))
            self.assertEqual(in_range(sea, star, most, "a"), (most, number - most))
            # A bridge between two of them is one that need not lead to the hub.
            self.assertEqual(in_range(sea, star[:4] + (1,) + (0,) * 5, most, "hub")[0], 4 * most - 1)


class TableTest(OneWayCase):
    def tables(self, bridges, chance):
        return [
            tuple(chance.randint(0, number) for number in bridges), (0,) * len(bridges), bridges,
            tuple(chance.choice([0, number, number // 2]) for number in bridges)]

    def test_ways_of_and_ins_of(self):
        chance = random.Random(9)
        for sea, bridges in all_bridges(3, 9):
            for table in self.tables(bridges, chance):
                strong, ins = ways_of(sea, bridges, table), ins_of(sea, bridges, table)
                self.assertEqual(strong, reference.strong_by(sea, bridges, table), (str(sea), bridges, table))
                self.assertEqual(ins, reference.ways_in(sea, bridges, table), (str(sea), bridges, table))
                self.assertEqual([strong.__class__, ins.__class__, sum(ins)], [int, tuple, sum(bridges)])
                self.assertLessEqual(strong, most_ways(sea, bridges))

    def test_one_way_round_and_one_side(self):
        ring, bridges = Sea(("c", "b", "a")), (4, 4, 4)
        told = [ways_of(ring, bridges, table) for table in [(4, 0, 4), (0, 4, 0), (4, 4, 4), (2, 2, 2), (3, 0, 4)]]
        self.assertEqual(told, [4, 4, 0, 4, 3])
        self.assertEqual(ins_of(ring, bridges, (4, 0, 4)), (4, 4, 4))
        self.assertEqual(ins_of(ring, (5, 3, MOST), (4, 1, 0)), (3, MOST + 4, 1))


if __name__ == "__main__":
    unittest.main()

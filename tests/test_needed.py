import itertools
import random
import unittest

from sparebridges.needed import for_all, joined, needed
from sparebridges.seas import Sea
from sparebridges.strengths import is_fulfilled
from tests import reference
from tests.samples import BAY, MOST, RING, SEAS, STAR, STRAIT, all_bridges, great, shapes, small, wishes_for

# More new bridges than these are not searched for, by how many islands there are.
SEARCHED = {2: 12, 3: 10, 4: 5, 5: 3}


class ExamplesTest(unittest.TestCase):
    def test_examples_of_the_document(self):
        self.assertEqual(
            [needed(BAY, RING, 4), needed(BAY, RING, 5), needed(BAY, STAR, 4), needed(BAY, (0, 0, 0, 0, 0, 0), 3),
             joined(BAY, (1, 0, 0, 0, 0, 1)), needed(BAY, STAR, (2, 2, 2, 5, 2, 2))],
            [0, 2, 2, 6, 1, 2])
        self.assertEqual(
            [for_all(STRAIT, (3,)), for_all(BAY, RING), for_all(Sea(("a", "b", "c")), (0, 0, 0))],
            [((2, 0, 0), (4, -6, 2)), ((2, 0, 0), (5, -16, 4)), ((2, 0, 3),)])


class NeededTest(unittest.TestCase):
    def test_against_a_search_through_all_new_bridges(self):
        compared = {many: 0 for many in SEARCHED}
        for sea, bridges, wishes in small(40, 1):
            most = SEARCHED[len(sea)]
            found = reference.search(sea, bridges, wishes, most)
            number = needed(sea, bridges, wishes)
            if found is None:
                self.assertGreater(number, most, (str(sea), bridges, wishes))
            else:
                self.assertEqual(number, found[0], (str(sea), bridges, wishes))
                compared[len(sea)] += number > 0
        self.assertTrue(all(often >= 20 for often in compared.values()), compared)

    def test_great_numbers_against_the_sum_of_lacks(self):
        for sea, bridges, wishes in great(10, 2):
            half = -(-reference.greatest_sum(sea, bridges, wishes) // 2)
            self.assertEqual(needed(sea, bridges, wishes), half, (str(sea), bridges, wishes))

    def test_none_exactly_if_the_wishes_are_fulfilled(self):
        chance = random.Random(3)
        for sea, bridges in all_bridges(4, 3):
            for wishes in wishes_for(sea, bridges, chance):
                none = needed(sea, bridges, wishes) == 0
                self.assertIs(none, reference.fulfil(sea, bridges, wishes))
                self.assertIs(none, is_fulfilled(sea, bridges, wishes))

    def test_nothing_stands_and_all_is_wished(self):
        for sea in SEAS:
            for wish in (2, 3, 4, 5, MOST - 1, MOST):
                half = -(-len(sea) * wish // 2)
                self.assertEqual(needed(sea, (0,) * len(sea.pairs), wish), half)


class JoinedTest(unittest.TestCase):
    def parts(self, sea, bridges):
        """How many parts there are with nothing between them."""
        parts = [{island} for island in sea.islands]
        for (one, other), number in zip(sea.pairs, bridges):
            if number > 0:
                touched = [part for part in parts if one in part or other in part]
                parts = [part for part in parts if part not in touched] + [set().union(*touched)]
        return len(parts)

    def test_one_fewer_than_there_are_parts(self):
        for sea, bridges in all_bridges(8, 4):
            self.assertEqual(joined(sea, bridges), self.parts(sea, bridges) - 1, (str(sea), bridges))

    def test_every_choice_of_pairs_with_bridges(self):
        for sea, number in itertools.product(SEAS[::2], (1, MOST)):
            for bridges in itertools.product((0, number), repeat=len(sea.pairs)):
                self.assertEqual(joined(sea, bridges), self.parts(sea, bridges) - 1)

    def test_against_a_search_through_all_new_bridges(self):
        for sea in SEAS[:6]:
            for bridges in shapes(sea, 1):
                least = next(
                    total for total in range(5) for new in reference.sums(len(sea.pairs), total)
                    if min(reference.strengths(sea, reference.together(bridges, new))) > 0)
                self.assertEqual(joined(sea, bridges), least)


class ForAllTest(unittest.TestCase):
    def greatest(self, sea, bridges, wish):
        """The greatest sum of lacks, known already for what was asked before."""
        if (str(sea), bridges, wish) not in self.known:
            self.known[str(sea), bridges, wish] = reference.greatest_sum(sea, bridges, wish)
        return self.known[str(sea), bridges, wish]

    def setUp(self):
        self.known = {}

    def assert_form(self, lines):
        self.assertEqual({lines.__class__, *[line.__class__ for line in lines]}, {tuple})
        self.assertEqual({len(line) for line in lines}, {3})
        self.assertEqual(lines[0][0], 2)
        begins = [begin for begin, _, _ in lines]
        self.assertEqual(begins, sorted(set(begins)))

    def assert_right(self, sea, bridges, wishes):
        """At these wishes the lines tell the greatest sum of lacks."""
        lines = for_all(sea, bridges)
        for wish in wishes:
            _, base, slope = [line for line in lines if line[0] <= wish][-1]
            self.assertEqual(base + slope * wish, self.greatest(sea, bridges, wish), (str(sea), bridges, wish))

    def assert_slopes(self, sea, bridges):
        """Each slope is what is added by the next step."""
        for begin, _, slope in for_all(sea, bridges):
            step = self.greatest(sea, bridges, begin + 1) - self.greatest(sea, bridges, begin)
            self.assertEqual(slope, step, (str(sea), bridges, begin))

    def assert_begins(self, sea, bridges):
        """Each begin is the first step at which the line before is right no more."""
        lines = for_all(sea, bridges)
        for (before, base, slope), (begin, _, _) in zip(lines, lines[1:]):
            # Further ones are right as well then, since the slopes do not fall.
            self.assertEqual(base + slope * (begin - 1), self.greatest(sea, bridges, begin - 1))
            self.assertNotEqual(base + slope * begin, self.greatest(sea, bridges, begin), (str(sea), bridges, begin))
            self.assertGreater(begin, before + 1)

    def test_each_strength_from_two_on(self):
        chance = random.Random(5)
        for sea in SEAS[::2]:
            few = [tuple(chance.randint(0, 4) for _ in sea.pairs) for _ in range(6)]
            for bridges in few + [(0,) * len(sea.pairs)]:
                self.assert_form(for_all(sea, bridges))
                # No lot has more than 24 bridges out of it: what is so from here on stays so.
                self.assert_right(sea, bridges, range(2, 60))
                self.assert_slopes(sea, bridges)
                self.assert_begins(sea, bridges)

    def test_lines_begin_as_late_as_can_be(self):
        chance = random.Random(6)
        for sea in SEAS[::2]:
            for _ in range(6):
                bridges = tuple(chance.randint(0, 6) for _ in sea.pairs)
                values = {wish: self.greatest(sea, bridges, wish) for wish in range(2, 60)}
                lines, begin = [], 2
                while begin is not None:
                    slope = values[begin + 1] - values[begin]
                    base = values[begin] - slope * begin
                    lines.append((begin, base, slope))
                    wrong = [wish for wish in range(begin, 60) if base + slope * wish != values[wish]]
                    begin = wrong[0] if wrong else None
                self.assertEqual(for_all(sea, bridges), tuple(lines), (str(sea), bridges))

    def test_bridges_of_any_size(self):
        chance = random.Random(7)
        for sea, bridges in all_bridges(2, 7):
            lines = for_all(sea, bridges)
            self.assert_form(lines)
            self.assert_slopes(sea, bridges)
            self.assert_begins(sea, bridges)
            near = {begin + step for begin, _, _ in lines for step in (-1, 0, 1, 2)}
            last = lines[-1][0]
            far = {last + 10 ** 6, last * 2, last * 10 ** 9 + 7, 10 ** 79, chance.randint(2, last + 2)}
            self.assert_right(sea, bridges, [wish for wish in near | far if wish >= 2])

    def test_the_last_line_has_a_lot_for_each_island(self):
        for sea, bridges in all_bridges(2, 8):
            _, base, slope = for_all(sea, bridges)[-1]
            self.assertEqual((base, slope), (-2 * sum(bridges), len(sea)))

    def test_half_of_it_is_needed(self):
        for sea, bridges in all_bridges(1, 9):
            lines = for_all(sea, bridges)
            for begin, base, slope in lines:
                for wish in (begin, begin + 1):
                    if wish <= MOST and (wish == begin or wish not in [line[0] for line in lines]):
                        self.assertEqual(needed(sea, bridges, wish), (base + slope * wish + 1) // 2)


if __name__ == "__main__":
    unittest.main()

import itertools
import random
import unittest

from sparebridges.errors import InvalidBridges, InvalidGrowth
from sparebridges.growth import grown
from sparebridges.seas import Sea
from sparebridges.strengths import strength
from tests import reference
from tests.samples import BAY, MOST, RING, SEAS, STAR, STRAIT, shapes

# All lots have left what they start with behind at this step: it is at most 6 * 99 more than another lot has.
SETTLED = 600


def growing(rounds, seed):
    """Triples of a sea, a start and a growth."""
    chance = random.Random(seed)
    for _ in range(rounds):
        for sea in SEAS:
            pairs = range(len(sea.pairs))
            most, steps = chance.choice([3, 20, 99]), chance.choice([1, 2, 9])
            start = tuple(chance.choice([0, most, chance.randint(0, most)]) for _ in pairs)
            yield sea, start, tuple(chance.choice([0, 0, steps, chance.randint(0, steps)]) for _ in pairs)
            yield sea, start, tuple(chance.choice([0, 1]) * (number < most) for number in start)


class ExamplesTest(unittest.TestCase):
    def test_examples_of_the_document(self):
        sea = Sea(("a", "b", "c"))
        self.assertEqual(
            [grown(BAY, RING, (0, 0, 0, 0, 0, 0)), grown(STRAIT, (4,), (3,)), grown(BAY, STAR, (0, 0, 0, 2, 0, 0)),
             grown(sea, (0, 5, 9), (2, 0, 0))],
            [((0, 4, 0),), ((0, 4, 3),), ((0, 3, 0),), ((0, 5, 2), (5, 14, 0))])


class GrownTest(unittest.TestCase):
    def strengths_at(self, sea, start, growth, steps):
        """The strength at each of these steps, from what leads out of the lots at the start and with each step."""
        lots = [
            (reference.leading(sea, start, lot), reference.leading(sea, growth, lot)) for lot in reference.lots(sea)]
        return {step: min(begin + step * more for begin, more in lots) for step in steps}

    def assert_form(self, lines):
        self.assertEqual({lines.__class__, *[line.__class__ for line in lines]}, {tuple})
        self.assertEqual({number.__class__ for line in lines for number in line}, {int})
        self.assertEqual({len(line) for line in lines}, {3})
        self.assertEqual(lines[0][0], 0)

    def lines_of(self, values, last):
        """The lines anew from the values, step by step, as point 14 says."""
        lines, begin = [], 0
        while begin is not None:
            slope = values[begin + 1] - values[begin]
            base = values[begin] - slope * begin
            lines.append((begin, base, slope))
            wrong = [step for step in range(begin, last) if base + slope * step != values[step]]
            begin = wrong[0] if wrong else None
        return tuple(lines)

    def test_lines_against_each_step(self):
        lengths = set()
        for sea, start, growth in growing(12, 1):
            values = self.strengths_at(sea, start, growth, range(SETTLED + 2))
            lines = grown(sea, start, growth)
            self.assert_form(lines)
            self.assertEqual(lines, self.lines_of(values, SETTLED), (str(sea), start, growth))
            lengths.add(len(lines))
        self.assertTrue({1, 2, 3} <= lengths, lengths)

    def test_steps_far_on(self):
        far = (SETTLED, 10 ** 6, 10 ** 18, MOST, 10 ** 70)
        for sea, start, growth in growing(4, 2):
            _, base, slope = grown(sea, start, growth)[-1]
            for step, value in self.strengths_at(sea, start, growth, far).items():
                self.assertEqual(base + slope * step, value, (str(sea), start, growth, step))
                self.assertEqual(value, reference.strength_at(sea, start, growth, step))

    def test_agrees_with_the_strength_of_the_sea(self):
        chance = random.Random(3)
        for sea, start, growth in growing(4, 3):
            lines = grown(sea, start, growth)
            for step in {0, 1, chance.randint(0, 100), 10 ** 20, *[begin for begin, _, _ in lines]}:
                _, base, slope = [line for line in lines if line[0] <= step][-1]
                bridges = tuple(number + step * more for number, more in zip(start, growth))
                self.assertEqual(base + slope * step, strength(sea, bridges), (str(sea), start, growth, step))

    def test_a_line_through_two_steps_alone(self):
        # It has 8 + 7 * t out of one lot and 9 out of another: 8, 9, 9, with a slope that is that of no lot.
        sea = Sea(("a", "b", "c"))
        self.assertEqual(grown(sea, (8, 9, 0), (7, 0, 0)), ((0, 8, 1), (2, 9, 0)))
        self.assertEqual(grown(sea, (67, 66, 0), (2, 6, 7)), ((0, 66, 10), (2, 67, 9), (67, 133, 8)))

    def test_many_lines(self):
        lines = ((0, 83, 12), (4, 90, 10), (10, 149, 4), (12, 160, 3), (14, 173, 2))
        start, growth = (11, 0, 88, 90, 72, 0), (2, 7, 0, 0, 0, 3)
        self.assertEqual(grown(BAY, start, growth), lines)
        self.assertEqual(lines, self.lines_of(self.strengths_at(BAY, start, growth, range(90)), 88))

    def test_every_small_sea_of_three(self):
        sea = Sea(("m", "a", "z"))
        for start, growth in itertools.product(itertools.product((0, 1, 4), repeat=3), repeat=2):
            values = self.strengths_at(sea, start, growth, range(22))
            self.assertEqual(grown(sea, start, growth), self.lines_of(values, 20), (start, growth))

    def test_nothing_grows_or_nothing_stands(self):
        for sea in SEAS:
            nothing = (0,) * len(sea.pairs)
            for bridges in shapes(sea, 9):
                self.assertEqual(grown(sea, bridges, nothing), ((0, strength(sea, bridges), 0),))
                self.assertEqual(grown(sea, nothing, bridges), ((0, 0, strength(sea, bridges)),))

    def test_the_greatest_numbers(self):
        for sea in SEAS:
            most, steps = (99,) * len(sea.pairs), (9,) * len(sea.pairs)
            sides = len(sea) - 1
            self.assertEqual(grown(sea, most, steps), ((0, 99 * sides, 9 * sides),))
            for place in range(len(sea.pairs)):
                with self.assertRaises(InvalidBridges) as held:
                    grown(sea, most[:place] + (100,) + most[place + 1:], None)
                self.assertEqual(held.exception.index, place)
                with self.assertRaises(InvalidGrowth) as held:
                    grown(sea, most, steps[:place] + (10,) + steps[place + 1:])
                self.assertEqual(held.exception.index, place)


if __name__ == "__main__":
    unittest.main()

import itertools
import random
import unittest

from sparebridges.arrows import arrows_needed
from sparebridges.certificates import certify_arrows, certify_between, certify_ends, certify_needed, certify_ways
from sparebridges.checker import accepts
from sparebridges.ends import end_range
from sparebridges.needed import needed
from sparebridges.oneway import most_ways
from sparebridges.strengths import between
from tests import papers, reference
from tests.samples import BAY, MOST, RING, SEAS, STAR, STRAIT, all_bridges, any_size, great, small


class ExamplesTest(unittest.TestCase):
    def test_examples_of_the_document(self):
        claim, paper = certify_needed(BAY, STAR, 4)
        self.assertEqual(
            [claim[0], claim[2:], accepts(claim, paper), accepts(claim, ()), certify_ways(BAY, STAR, 2)[0][0]],
            ["needed", ((3, 3, 3, 0, 0, 0), (4, 4, 4, 4, 4, 4), 2), True, False, "no ways"])
        self.assertEqual(
            certify_ends(BAY, STAR, 4, "elm"),
            (("ends", "islands ash elm oak yew", (3, 3, 3, 0, 0, 0), (4, 4, 4, 4, 4, 4), "elm", 1), (("elm",),)))


class CertificatesTest(unittest.TestCase):
    def assert_certified(self, answer, claim, others=True):
        """The answer is a pair of this claim and a certificate for it; one with another number isn't taken."""
        self.assertEqual([answer.__class__, len(answer)], [tuple, 2])
        told, paper = answer
        self.assertEqual((told, told.__class__), (claim, tuple))
        self.assertEqual([part.__class__ for part in told], [part.__class__ for part in claim])
        self.assertIs(accepts(told, paper), True, answer)
        self.assertIs(papers.right(told, paper), True, answer)
        for number in (claim[-1] + 1, claim[-1] - 1, claim[-1] + MOST):
            if others:
                self.assertIs(accepts((*claim[:-1], number), paper), False, (claim, paper))

    def test_between(self):
        for sea, bridges in all_bridges(3, 1):
            for one, other in itertools.permutations(sea.islands, 2):
                number = reference.strength_of(sea, bridges, one, other)
                claim = ("between", str(sea), bridges, one, other, number)
                self.assert_certified(certify_between(sea, bridges, one, other), claim)
                self.assertEqual(between(sea, bridges, one, other), number)

    def test_needed(self):
        for sea, bridges, wishes in itertools.chain(small(40, 2), great(6, 2)):
            number = -(-reference.greatest_sum(sea, bridges, wishes) // 2)
            claim = ("needed", str(sea), bridges, reference.wish_of_each(sea, wishes), number)
            self.assert_certified(certify_needed(sea, bridges, wishes), claim)
            self.assertEqual(needed(sea, bridges, wishes), number)

    def test_ends(self):
        none = 0
        for sea, bridges, wishes in itertools.chain(small(20, 3), great(3, 3)):
            for island in sea.islands:
                least = end_range(sea, bridges, wishes, island)[0]
                claim = ("ends", str(sea), bridges, reference.wish_of_each(sea, wishes), island, least)
                answer = certify_ends(sea, bridges, wishes, island)
                self.assert_certified(answer, claim, others=False)
                # Fewer are shown as well, since that many do not end there either; more are not.
                self.assertIs(accepts((*claim[:-1], least + 1), answer[1]), False)
                self.assertEqual(least, max(0, reference.lack(sea, bridges, wishes, (island,))))
                none += least == 0
        self.assertGreater(none, 100)

    def test_ways(self):
        words = []
        for sea, bridges in all_bridges(6, 4):
            most = min(reference.strengths(sea, bridges)) // 2
            self.assertEqual(most_ways(sea, bridges), most)
            for strong in {0, most // 2, max(0, most - 1), most, most + 1, most + 2, 2 * most + 3, 10 ** 79}:
                words.append("ways" if strong <= most else "no ways")
                answer = certify_ways(sea, bridges, strong)
                self.assert_certified(answer, (words[-1], str(sea), bridges, strong), others=False)
                other = {"ways": "no ways", "no ways": "ways"}[words[-1]]
                self.assertIs(accepts((other, *answer[0][1:]), answer[1]), False)
            self.assertIs(accepts(("ways", str(sea), bridges, most + 1), certify_ways(sea, bridges, most)[1]), False)
            self.assertIs(accepts(("no ways", str(sea), bridges, most), certify_ways(sea, bridges, most + 1)[1]), False)
        self.assertTrue(min(words.count("ways"), words.count("no ways")) > 300)

    def test_arrows(self):
        chance, sides = random.Random(5), []
        for sea, bridges in all_bridges(4, 5):
            table = tuple(chance.choice([0, number, chance.randint(0, number)]) for number in bridges)
            has = reference.strong_by(sea, bridges, table)
            for strong in {0, has, has + 1, chance.randint(has, has + 9), any_size(chance), 10 ** 79}:
                number = reference.arrows_by_sums(sea, bridges, table, strong)
                answer = certify_arrows(sea, bridges, table, strong)
                self.assert_certified(answer, ("arrows", str(sea), bridges, table, strong, number))
                self.assertEqual(arrows_needed(sea, bridges, table, strong), number)
                sides.append(answer[1][1])
        self.assertTrue(min(sides.count("in"), sides.count("out")) > 30, sides.count("in"))

    def test_wishes_are_written_as_a_tuple(self):
        for wishes, told in [(4, (4,) * 6), ((2, 3, 4, 5, 6, 7), (2, 3, 4, 5, 6, 7))]:
            self.assertEqual(certify_needed(BAY, RING, wishes)[0][3], told)
            self.assertEqual(certify_ends(BAY, RING, wishes, "oak")[0][3], told)
        self.assertEqual(certify_needed(STRAIT, (0,), MOST)[0], ("needed", "islands a b", (0,), (MOST,), MOST))

    def test_answers_to_equal_arguments_are_equal(self):
        for sea in SEAS:
            bridges = tuple(range(len(sea.pairs)))
            for _ in range(2):
                self.assertEqual(certify_needed(sea, bridges, 7), certify_needed(sea, tuple(list(bridges)), 7))
                self.assertEqual(certify_ways(sea, bridges, 3), certify_ways(sea=sea, bridges=bridges, strong=3))


if __name__ == "__main__":
    unittest.main()

import itertools
import random
import unittest

from sparebridges.certificates import certify_arrows, certify_between, certify_ends, certify_needed, certify_ways
from sparebridges.checker import accepts
from sparebridges.oneway import most_ways
from sparebridges.seas import Sea
from tests import papers, reference
from tests.samples import BAY, MOST, RING, SEAS, STAR, STRAIT, all_bridges, wishes_for
from tests.values import ANYTHING, Hostile, Yes, nested

TEXT, TWO = str(BAY), str(STRAIT)
FOURS = (4,) * 6
NOTHING = (0,) * 6
# A right certificate for a claim of each form, made by hand.
RIGHT = [
    (("between", TEXT, STAR, "elm", "yew", 3), (("elm",), (-3, 0, 3, 0, 0, 0))),
    (("between", TEXT, STAR, "elm", "yew", 3), (("ash", "oak", "yew"), (-3, 0, 3, 0, 0, 0))),
    (("between", TEXT, STAR, "yew", "elm", 3), (("ash", "elm", "oak"), (3, 0, -3, 0, 0, 0))),
    (("between", TEXT, RING, "ash", "oak", 4), (("ash",), (2, 0, 2, 2, 0, -2))),
    (("between", TEXT, RING, "oak", "ash", 4), (("ash",), (-2, 0, -2, -2, 0, 2))),
    (("between", TWO, (MOST,), "b", "a", MOST), (("a",), (-MOST,))),
    (("between", TWO, (0,), "b", "a", 0), (("b",), (0,))),
    (("needed", TEXT, STAR, FOURS, 2), ((0, 0, 0, 1, 0, 1), (("elm",), ("oak",), ("yew",)))),
    (("needed", TEXT, STAR, FOURS, 2), ((0, 0, 0, 0, 1, 1), (("yew",), ("elm",), ("oak",)))),
    (("needed", TEXT, RING, FOURS, 0), (NOTHING, ())),
    (("needed", TEXT, RING, FOURS, 0), (NOTHING, (("ash", "oak"), ("elm",)))),
    (("needed", TWO, (3,), (8,), 5), ((5,), (("a",), ("b",)))),
    (("needed", TWO, (3,), (MOST,), MOST - 3), ((MOST - 3,), (("b",), ("a",)))),
    (("ends", TEXT, STAR, FOURS, "elm", 1), (("elm",),)),
    (("ends", TEXT, STAR, FOURS, "elm", 0), (("elm",),)),
    (("ends", TEXT, STAR, FOURS, "elm", 0), ()),
    (("ends", TEXT, STAR, FOURS, "ash", 0), ()),
    (("ends", TWO, (0,), (MOST,), "b", MOST), (("b",),)),
    (("ways", TEXT, RING, 2), (2, 0, 0, 2, 0, 2)),
    (("ways", TEXT, RING, 0), NOTHING),
    (("ways", TEXT, STAR, 1), (1, 2, 1, 0, 0, 0)),
    (("no ways", TEXT, STAR, 2), ("elm",)),
    (("no ways", TEXT, STAR, 2), ("ash", "elm", "yew")),
    (("no ways", TEXT, RING, 3), ("elm", "oak")),
    (("no ways", TEXT, RING, 10 ** 79), ("ash", "oak")),
    (("arrows", TEXT, STAR, (3, 3, 3, 0, 0, 0), 1, 3),
     (((0, 1), (0, 1), (0, 1), (0, 0), (0, 0), (0, 0)), "out", (("elm",), ("oak",), ("yew",)))),
    (("arrows", TWO, (5,), (5,), 2, 2), (((0, 2),), "in", (("a",),))),
    (("arrows", TWO, (5,), (5,), 2, 2), (((0, 2),), "out", (("b",),))),
    (("arrows", TWO, (4,), (2,), 2, 0), (((0, 0),), "out", (("b",), ("a",)))),
    (("arrows", TWO, (9,), (2,), 1, 0), (((0, 0),), "in", ())),
    (("arrows", TWO, (0,), (0,), 10 ** 60, 2 * 10 ** 60), (((10 ** 60, 10 ** 60),), "in", (("a",), ("b",)))),
]
# What stands in the place of any part of a claim or a certificate.
OTHERS = [
    *ANYTHING, "ash", "elm", "oak", "yew", "b", "in", "out", "on", "IN", "ways", "no ways", "needed", "arrows", "ends",
    "between", TEXT, TWO, TEXT + " ", "islands elm ash oak yew", "islands ash elm oak", ("ash",), ("elm",), ("b",),
    ("elm", "ash"), ("ash", "elm"), ("elm", "elm"), ("ash", "elm", "oak", "yew"), (("ash",), ("elm",)), (("elm",),),
    (("elm",), ("elm",)), (("ash",), ("ash", "elm")), ((),), ((), ()), ["ash"], {"ash"}, {"in"}, [], STAR, RING,
    NOTHING, FOURS, (4,) * 5, (0, 0), (0, 2), ((0, 0),) * 6, 3, 4, -3, -2, MOST, MOST + 1, -MOST, BAY, Hostile(), Yes(),
    (Hostile(),), (Yes(), Yes()), nested(95)]


def like(value):
    """Values much like another one: of another kind, a little more or fewer, or with an element more or fewer."""
    if value.__class__ is int:
        return [value + 1, value - 1, -value, 2 * value, value == 1, value == 0, str(value), (value,), [value]]
    if value.__class__ is str:
        return [value + " ", value[:-1], value.upper(), value.encode(), (value,), [value], " " + value, value + "x"]
    if value.__class__ is tuple:
        return [
            list(value), value[1:], value[:-1], value + value[:1], value[::-1], value + value, (value,), value + (0,),
            value + ((),), value + (None,), dict(enumerate(value)), iter(value), "\n"]
    return []


def all_claims(rounds, seed):
    """Claims of this package with their certificates."""
    chance = random.Random(seed)
    for sea, bridges in all_bridges(rounds, seed):
        one, other = chance.sample(sea.islands, 2)
        wishes, strong = chance.choice(wishes_for(sea, bridges, chance)), most_ways(sea, bridges)
        table = tuple(chance.randint(0, number) for number in bridges)
        yield certify_between(sea, bridges, one, other)
        yield certify_needed(sea, bridges, wishes)
        yield certify_ends(sea, bridges, wishes, one)
        yield certify_ways(sea, bridges, max(0, strong + chance.randint(-1, 1)))
        yield certify_arrows(sea, bridges, table, max(0, strong + chance.randint(-1, 3)))


class ExamplesTest(unittest.TestCase):
    def test_examples_of_the_document(self):
        claim, paper = certify_needed(BAY, STAR, 4)
        self.assertEqual(
            [claim[0], claim[2:], accepts(claim, paper), accepts(claim, ()), certify_ways(BAY, STAR, 2)[0][0]],
            ["needed", ((3, 3, 3, 0, 0, 0), (4, 4, 4, 4, 4, 4), 2), True, False, "no ways"])
        self.assertEqual(
            [certify_ends(BAY, STAR, 4, "elm"), accepts(("no ways", str(BAY), STAR, 2), ("elm",)),
             accepts(("no ways", str(BAY), STAR, 2), ("ash",))],
            [(("ends", "islands ash elm oak yew", (3, 3, 3, 0, 0, 0), (4, 4, 4, 4, 4, 4), "elm", 1), (("elm",),)),
             True, False])


class AcceptsCase(unittest.TestCase):
    def assert_told(self, claim, paper):
        """It is True or False, as the words of the document say."""
        told = accepts(claim, paper)
        self.assertIs(told.__class__, bool)
        if told is not papers.right(claim, paper):
            self.fail(f"{told} for {claim!r:.999} with {paper!r:.999}")
        return told


class FormsTest(AcceptsCase):
    def test_right_certificates(self):
        for claim, paper in RIGHT:
            self.assertIs(accepts(claim, paper), True, (claim, paper))
            self.assertIs(accepts(certificate=paper, claim=claim), True)
            self.assertIs(papers.right(claim, paper), True, (claim, paper))

    def test_certificates_of_other_claims(self):
        for (claim, _), (_, paper) in itertools.product(RIGHT, repeat=2):
            self.assert_told(claim, paper)

    def assert_none(self, claim, *wrong):
        for paper in wrong:
            self.assertIs(accepts(claim, paper), False, (claim, paper))
            self.assertIs(papers.right(claim, paper), False, (claim, paper))

    def test_between(self):
        claim, ways = ("between", TEXT, STAR, "elm", "yew", 3), (-3, 0, 3, 0, 0, 0)
        self.assert_none(
            claim, (("elm", "yew"), ways), (("oak",), ways), (("ash", "elm"), ways), (("elm", "ash"), ways), ((), ways),
            (("ash", "elm", "oak", "yew"), ways), ("elm", ways), (ways, ("elm",)), (("elm",), ways, ()), (("elm",),),
            (("elm",), (3, 0, -3, 0, 0, 0)), (("elm",), (-2, 0, 2, 0, 0, 0)), (("elm",), (-3, 0, 2, 0, 0, 0)),
            (("elm",), (-3, 0, 4, 0, 0, 0)), (("elm",), (-3, 1, 2, 0, 0, 0)), (("elm",), NOTHING),
            (("elm",), (-3, 0, 3, 0, 0)), (("elm",), (-3, 0, 3, 0, 0, 0, 0)), (("elm",), (-3, False, 3, 0, 0, 0)))
        self.assert_none(("between", TEXT, STAR, "elm", "yew", 2), (("elm",), (-2, 0, 2, 0, 0, 0)))
        self.assert_none(("between", TEXT, STAR, "elm", "yew", 4), (("elm",), (-4, 0, 4, 0, 0, 0)))
        self.assert_none(("between", TEXT, STAR, "elm", "elm", 0), (("elm",), NOTHING))
        self.assert_none(("between", TEXT, (3, 3, 3, 0, 0, 0), "elm", "fir", 0), (("elm",), NOTHING))
        # There are not so many between elm and yew, though enough lead in and out.
        self.assert_none(claim, (("elm",), (0, 0, 0, 0, 3, 0)), (("elm",), (-4, 1, 3, -1, 0, 0)))
        # More than that lead round in a ring, and the number told is right.
        ring = ("between", TEXT, (9,) * 6, "elm", "yew", 27)
        self.assertIs(accepts(ring, (("elm",), (-9, 0, 9, 9, 9, 9))), True)
        self.assert_none(ring, (("elm",), (-9, 1, 9, 9, 9, 9)))

    def test_needed(self):
        claim, new, lots = ("needed", TEXT, STAR, FOURS, 2), (0, 0, 0, 1, 0, 1), (("elm",), ("oak",), ("yew",))
        self.assert_none(
            claim, (new, lots[:2]), (new, ()), (new, lots + lots[:1]), (new, (*lots, ("ash",))),
            (new, (("elm", "oak"), ("oak", "yew"))), (new, (*lots, ())), (new, (*lots, ("ash", "elm"))),
            (new, (("elm", "oak"), ("yew",))), (new, list(lots)), (new, (["elm"], *lots[1:])), (new, ("elm", "oak")),
            (lots, new), (new,), (new, lots, ()), ((0, 0, 0, 2, 0, 0), lots), ((0, 0, 0, 1, 1, 0), lots[:2]),
            ((0, 0, 0, 1, 1, 1), lots), ((0, 0, 0, 1, 0, 0), lots), ((1, 0, 0, 1, 1, -1), lots),
            ((0, 0, 0, 1, 0, True), lots), (new[:5], lots), (new + (0,), lots))
        self.assert_none(("needed", TEXT, STAR, FOURS, 3), ((0, 0, 0, 1, 1, 1), lots))
        self.assert_none(("needed", TEXT, STAR, FOURS, 1), ((0, 0, 0, 1, 0, 0), lots))
        self.assert_none(("needed", TEXT, STAR, 4, 2), (new, lots))
        self.assert_none(("needed", TEXT, STAR, FOURS, 0), (NOTHING, lots), (NOTHING, ()))
        fulfilled = ("needed", TEXT, RING, FOURS, 0)
        self.assert_none(
            fulfilled, (NOTHING, (("elm",), ("elm",))), (NOTHING, ((),)), (NOTHING, None), (NOTHING, ("elm",)),
            ((1, 0, 0, 0, 0, 0), ()), ((1, -1, 0, 0, 0, 0), ()), (NOTHING, (("elm", "ash"),)), (NOTHING[1:], ()))
        self.assert_none(("needed", TEXT, RING, FOURS, 1), ((1, 0, 0, 0, 0, 0), ()), ((1, 0, 0, 0, 0, 0), (("elm",),)))

    def test_an_odd_sum_of_lacks_is_rounded_up(self):
        # The sum is 3: it shows that 1 or 2 are needed, but not 3.
        lots = (("elm",), ("oak",), ("yew",))
        self.assertIs(accepts(("needed", TEXT, STAR, FOURS, 2), ((0, 0, 0, 1, 0, 1), lots)), True)
        self.assert_none(("needed", TEXT, STAR, FOURS, 3), ((0, 0, 0, 1, 1, 1), lots))
        self.assert_none(("needed", TEXT, STAR, FOURS, 2), ((0, 0, 0, 1, 0, 1), lots[:2]))

    def test_ends(self):
        claim = ("ends", TEXT, STAR, FOURS, "elm", 1)
        self.assert_none(
            claim, (), ("elm",), (("elm",), ("elm",)), (("elm",), ("oak",)), (("oak",),), (("elm", "oak"),),
            (("elm",), ()), [("elm",)], (["elm"],), ((("elm",),),), None)
        self.assert_none(("ends", TEXT, STAR, FOURS, "elm", 2), (("elm",),), (("elm",), ("elm",)))
        self.assert_none(("ends", TEXT, STAR, FOURS, "fir", 0), ())
        self.assert_none(("ends", TEXT, STAR, 4, "elm", 1), (("elm",),))
        # Three islands lack nothing there: that of this one is below 0, so that its lot shows less than no lot does.
        self.assert_none(("ends", TEXT, STAR, FOURS, "ash", 0), (("ash",),), (("elm",),), (("ash",), ("elm",)))

    def test_ways(self):
        self.assert_none(
            ("ways", TEXT, RING, 2), (2, 0, 0, 2, 0, 1), (2, 0, 0, 2, 0, 3), (2, 0, 2, 2, 0, 2), (2, 0, 0, 2, 0),
            (2, 0, 0, 2, 0, 2, 0), [2, 0, 0, 2, 0, 2], (2, 0, 0, 2, False, 2), (2, 0, 0, 2, -1, 2), ((2, 0, 0, 2, 0, 2),))
        self.assert_none(("ways", TEXT, RING, 3), (2, 0, 0, 2, 0, 2), (3, 0, 0, 3, 0, 3))
        self.assert_none(("ways", TEXT, RING, -1), (2, 0, 0, 2, 0, 2))
        self.assert_none(("ways", TEXT, RING, 0), (3, 0, 0, 0, 0, 0), (0, 1, 0, 0, 0, 0), (-1, 0, 0, 0, 0, 0))

    def test_no_ways(self):
        self.assert_none(
            ("no ways", TEXT, STAR, 2), ("ash",), ("elm", "oak"), (), ("elm", "oak", "yew"), ("yew", "ash", "elm"),
            ("elm", "elm"), ("ash", "elm", "oak", "yew"), "elm", ["elm"], (("elm",),), ("fir",), (1,), None)
        self.assert_none(("no ways", TEXT, STAR, 1), *[lot for lot in reference.lots(BAY)])
        self.assert_none(("no ways", TEXT, NOTHING, 0), *[lot for lot in reference.lots(BAY)])
        # As many as 2 * K lead out of it, which is enough.
        self.assert_none(("no ways", TEXT, RING, 2), ("elm",))
        self.assertIs(accepts(("no ways", TEXT, RING[:5] + (1,), 2), ("yew",)), True)

    def test_arrows(self):
        claim, lots = ("arrows", TWO, (5,), (5,), 2, 2), (("a",),)
        self.assert_none(
            claim, (((0, 2),), "out", lots), (((0, 2),), "in", (("b",),)), (((0, 2),), "in", (("a",), ("b",))),
            (((0, 2),), "in", ()), (((0, 2),), "IN", lots), (((0, 2),), True, lots), (((2, 0),), "in", lots),
            (((1, 1),), "in", lots), (((0, 3),), "in", lots), (((0, 1),), "in", lots), (((-1, 3),), "in", lots),
            (((0, 2), (0, 0)), "in", lots), ((0, 2), "in", lots), (((0, 2, 0),), "in", lots), (((2,),), "in", lots),
            (([0, 2],), "in", lots), ([(0, 2)], "in", lots), (((False, 2),), "in", lots), (((0, 2),), "in", (("a",),) * 2),
            (((0, 2),), "in", ["a"]), (((0, 2),), "in", ("a",)), (((0, 2),), "in"), (((0, 2),), "in", lots, ()))
        self.assert_none(("arrows", TWO, (5,), (5,), 2, 3), (((0, 3),), "in", lots), (((1, 2),), "in", lots))
        self.assert_none(("arrows", TWO, (5,), (5,), 2, 1), (((0, 1),), "in", lots))
        self.assert_none(("arrows", TWO, (5,), (6,), 2, 2), (((0, 2),), "in", lots))
        self.assert_none(("arrows", TWO, (5,), 5, 2, 2), (((0, 2),), "in", lots))
        self.assert_none(("arrows", TWO, (5,), (5,), 2, 0), (((0, 0),), "in", lots))
        self.assert_none(
            ("arrows", TWO, (4,), (2,), 2, 0), (((0, 0),), "in", (("a",), ("a",))), (((0, 0),), "in", ((),)),
            (((0, 0),), "on", ()), (((0, 1),), "in", ()), (((1, -1),), "in", ()), (((0, 0),), "in", None))

    def test_a_sum_of_lacks_that_is_too_great_or_too_small(self):
        # Only one that is as great as the number itself shows it, though a smaller one would do for new bridges.
        new = ((0, 1), (0, 1), (0, 1), (0, 0), (0, 0), (0, 0))
        claim, lots = ("arrows", TEXT, STAR, (3, 3, 3, 0, 0, 0), 1, 3), (("elm",), ("oak",), ("yew",))
        self.assertIs(accepts(claim, (new, "out", lots)), True)
        self.assert_none(claim, (new, "out", lots[:2]), (new, "out", (*lots, ("ash",))), (new, "in", lots))


class AnythingTest(AcceptsCase):
    def test_any_values(self):
        for claim, paper in itertools.product([*OTHERS, *[claim for claim, _ in RIGHT[::3]]], OTHERS):
            self.assertIs(self.assert_told(claim, paper), accepts(claim, paper))

    def test_parts_bent_at_any_place(self):
        told = []
        for claim, paper in RIGHT:
            for path in papers.places(claim):
                for value in [*OTHERS, *like(papers.at(claim, path))]:
                    told.append(self.assert_told(papers.bent(claim, path, value), paper))
            for path in papers.places(paper):
                for value in [*OTHERS, *like(papers.at(paper, path))]:
                    told.append(self.assert_told(claim, papers.bent(paper, path, value)))
        self.assertTrue(told.count(True) > 200 and told.count(False) > 20000, told.count(True))

    def test_parts_bent_deep_within(self):
        for claim, paper in RIGHT:
            for path in papers.places(paper):
                within = papers.at(paper, path)
                for _ in range(90):
                    within = (within,)
                self.assertIs(accepts(claim, papers.bent(paper, path, within)), False)
            for path in papers.places(claim):
                self.assertIs(accepts(papers.bent(claim, path, nested(90)), paper), False)
                self.assertIs(accepts(claim, nested(99)), False)

    def test_two_parts_bent_at_once(self):
        chance, told = random.Random(1), []
        for claim, paper in RIGHT:
            both = (claim, paper)
            paths = [path for path in papers.places(both) if path not in ((), (0,))]
            for _ in range(400):
                new = both
                for path in chance.sample(paths, 2):
                    # The first one may have taken away the place of the second one.
                    if path in list(papers.places(new)):
                        near = like(papers.at(new, path))[:4] or [0]
                        new = papers.bent(new, path, chance.choice([chance.choice(near), chance.choice(OTHERS)]))
                told.append(self.assert_told(*new))
        self.assertGreater(told.count(True), 50)

    def test_claims_of_this_package_bent(self):
        chance, told = random.Random(2), []
        for claim, paper in all_claims(1, 2):
            self.assertIs(self.assert_told(claim, paper), True)
            for _ in range(6):
                path = chance.choice(list(papers.places(claim))[1:])
                new = papers.bent(claim, path, chance.choice([*like(papers.at(claim, path)), *OTHERS]))
                told.append(self.assert_told(new, paper))
                path = chance.choice(list(papers.places(paper)))
                new = papers.bent(paper, path, chance.choice([*like(papers.at(paper, path)), *OTHERS]))
                told.append(self.assert_told(claim, new))
        self.assertTrue(min(told.count(True), told.count(False)) > 50)

    def test_nothing_is_changed(self):
        listed = ["elm"]
        claim = ("no ways", TEXT, STAR, [2])
        self.assertIs(accepts(claim, listed), False)
        self.assertEqual([listed, claim], [["elm"], ("no ways", TEXT, STAR, [2])])


class TruthTest(AcceptsCase):
    """Whatever is accepted is true, by a search that knows nothing of certificates."""

    def small(self, rounds, seed):
        chance = random.Random(seed)
        for _ in range(rounds):
            sea = chance.choice([STRAIT, SEAS[2], SEAS[2], BAY])
            yield sea, tuple(chance.choice([0, 1, 1, 2, 3]) for _ in sea.pairs), chance

    def family(self, sea, chance):
        """Any lots without a common island."""
        return tuple(chance.choice(list(reference.families(sea.islands, sea.islands))))

    def tries(self, sea, bridges, chance):
        """A claim of any form with any certificate, and whether it is true."""
        number, strong, pairs = chance.randint(0, 3), chance.randint(0, 2), range(len(bridges))
        wishes = tuple(chance.randint(2, 3) for _ in pairs)
        one, other = chance.sample(sea.islands, 2)
        lot, lots = chance.choice(reference.lots(sea)), self.family(sea, chance)
        best = reference.search(sea, bridges, wishes, 5)
        new = chance.choice(best[1]) if best and chance.random() < 0.8 else tuple(chance.randint(0, 2) for _ in pairs)
        table = tuple(chance.randint(0, has) for has in bridges)
        some = tuple(chance.randint(-has, has) for has in bridges)
        yield ("between", number), (one, other), (lot, some), lambda: (
            reference.strength_of(sea, bridges, one, other) == number)
        yield ("needed", sum(new)), (wishes,), (new, lots), lambda: best is not None and best[0] == sum(new)
        yield ("ends", number), (wishes, one), lots[:1], lambda: best is None or all(
            reference.ends_of(sea, each)[sea.islands.index(one)] >= number for each in best[1])
        strongest = max([reference.strong_by(sea, bridges, each) for each in reference.tables(bridges)][:5000])
        yield ("ways", strong), (), table, lambda: strongest >= strong
        yield ("no ways", strong), (), lot, lambda: strongest < strong
        arrows = tuple((chance.choice([0, 0, 1]), chance.choice([0, 0, 1])) for _ in pairs)
        many = sum(map(sum, arrows))
        yield ("arrows", many), (table, strong), (arrows, chance.choice(["in", "out"]), lots), lambda: (
            reference.arrows_by_search(sea, bridges, table, strong, many) == many)

    def test_whatever_is_accepted_is_true(self):
        often = {}
        for sea, bridges, chance in self.small(700, 3):
            for (word, number), told, paper, is_true in self.tries(sea, bridges, chance):
                claim = (word, str(sea), bridges, *told, number)
                if self.assert_told(claim, paper):
                    self.assertTrue(is_true(), (claim, paper))
                    often[word] = often.get(word, 0) + 1
        self.assertEqual(sorted(often), sorted(papers.FORMS))
        self.assertTrue(all(number >= 8 for number in often.values()), often)


if __name__ == "__main__":
    unittest.main()

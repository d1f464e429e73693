import itertools
import random
import unittest

from sparebridges import errors
from sparebridges.coasts import Coast
from sparebridges.needed import needed
from sparebridges.seas import Sea
from tests import reference
from tests.samples import BAY, MOST, RING, SEAS, STAR, STRAIT, any_size, wishes_for
from tests.values import ANYTHING, Hostile, Yes, nested

NO_MANY = [
    *[value for value in ANYTHING if not isinstance(value, int) or isinstance(value, bool) or value < 1],
    0, -1, -MOST, MOST + 1, 10 ** 79, "1", (1,), [1]]
NO_ISLANDS = [*ANYTHING, "Ash", "oaks", " ash", ("ash",), ["ash"], BAY]


class Stop(Exception):
    """What a block is left by."""


def seen(coast):
    """All that a coast tells of itself."""
    return (coast.sea, coast.wishes, coast.bridges, coast.built, coast.changes, coast.lacking())


class Model:
    """A coast as the document describes it: a list of what has happened, looked at anew each time."""

    def __init__(self, sea, bridges, wishes):
        self.sea, self.start, self.wishes, self.done = sea, bridges, wishes, []

    def bridges(self):
        numbers = dict(zip([frozenset(pair) for pair in self.sea.pairs], self.start))
        for one, other, more in self.done:
            numbers[frozenset((one, other))] += more
        return tuple(numbers.values())

    def has(self, one, other):
        return self.bridges()[[set(pair) for pair in self.sea.pairs].index({one, other})]

    def told(self):
        built = sum(more for _, _, more in self.done if more > 0)
        missing = -(-reference.greatest_sum(self.sea, self.bridges(), self.wishes) // 2)
        return (self.sea, self.wishes, self.bridges(), built, len(self.done), missing)


class ExamplesTest(unittest.TestCase):
    def test_examples_of_the_document(self):
        coast = Coast(BAY, RING, 4)
        self.assertIsNone(coast.fall("oak", "elm", 2))
        self.assertEqual([coast.bridges, coast.lacking(), coast.changes], [(2, 0, 2, 0, 0, 2), 2, 1])
        with self.assertRaises(errors.TooMany) as held:
            coast.fall("elm", "oak", 1)
        self.assertEqual(held.exception.given, ("elm", "oak"))
        self.assertIsNone(coast.build("elm", "oak", 1))
        self.assertEqual([coast.lacking(), coast.built, coast.bridges], [1, 1, (2, 0, 2, 1, 0, 2)])


class CoastCase(unittest.TestCase):
    def assert_error(self, coast, wrong, given, call, *arguments):
        """A call raises this error, and then nothing has changed."""
        before = seen(coast)
        with self.assertRaises(getattr(errors, wrong)) as held:
            call(*arguments)
        self.assertIs(held.exception.__class__, getattr(errors, wrong))
        if wrong == "TooMany":
            self.assertEqual((held.exception.given, held.exception.given.__class__), (given, tuple))
        elif wrong != "NothingToUndo":
            self.assertIs(held.exception.given, given)
        self.assertEqual(seen(coast), before)

    def three(self):
        """A coast with a few changes."""
        coast = Coast(BAY, RING, 4)
        coast.fall("elm", "ash", 1)
        coast.build("oak", "ash", 5)
        coast.fall("ash", "oak", 2)
        return coast


class ChangesTest(CoastCase):
    def change(self, coast, model, chance):
        """One change of a coast and of what it ought to be, or an error and no change."""
        one, other = chance.sample(coast.sea.islands, 2)
        kind, has = chance.choice(["fall", "build", "build", "undo"]), model.has(one, other)
        many = chance.choice([1, 2, has, has + 1, MOST - has, MOST - has + 1, chance.randint(1, 9), any_size(chance)])
        many = min(max(1, many), MOST)
        if kind == "undo":
            if model.done:
                self.assertIsNone(coast.undo())
                model.done.pop()
            else:
                self.assert_error(coast, "NothingToUndo", None, coast.undo)
        elif kind == "fall":
            if has < many:
                self.assert_error(coast, "TooMany", (one, other), coast.fall, one, other, many)
            else:
                self.assertIsNone(coast.fall(one, other, many))
                model.done.append((one, other, -many))
        elif has + many > MOST:
            self.assert_error(coast, "TooMany", (one, other), coast.build, one, other, many)
        else:
            self.assertIsNone(coast.build(one=one, other=other, many=many))
            model.done.append((one, other, many))

    def test_changes_in_any_order(self):
        chance = random.Random(1)
        for sea, _ in itertools.product(SEAS, range(5)):
            most = chance.choice([3, 9, MOST])
            bridges = tuple(chance.randint(0, most) for _ in sea.pairs)
            wishes = chance.choice(wishes_for(sea, bridges, chance))
            coast, model = Coast(sea, bridges, wishes), Model(sea, bridges, wishes)
            self.assertEqual(seen(coast), model.told())
            for _ in range(25):
                self.change(coast, model, chance)
                self.assertEqual(seen(coast), model.told())
                self.assertEqual(coast.lacking(), needed(sea, coast.bridges, wishes))

    def test_all_is_taken_back_in_turn(self):
        chance, coast = random.Random(2), Coast(BAY, (MOST // 2,) * 6, 9)
        told = [seen(coast)]
        for _ in range(40):
            one, other = chance.sample(BAY.islands, 2)
            chance.choice([coast.fall, coast.build])(one, other, chance.randint(1, 10 ** 9))
            told.append(seen(coast))
        for before in reversed(told[:-1]):
            self.assertIsNone(coast.undo())
            self.assertEqual(seen(coast), before)
        self.assert_error(coast, "NothingToUndo", None, coast.undo)

    def test_what_was_built_counts_though_it_fell(self):
        coast = Coast(STRAIT, (0,), 2)
        coast.build("a", "b", 7)
        coast.fall("b", "a", 7)
        coast.build("b", "a", 2)
        self.assertEqual([coast.built, coast.bridges, coast.changes, coast.lacking()], [9, (2,), 3, 0])
        coast.undo()
        self.assertEqual([coast.built, coast.bridges, coast.lacking()], [7, (0,), 2])
        coast.undo()
        coast.undo()
        self.assertEqual([coast.built, coast.bridges, coast.changes], [0, (0,), 0])

    def test_what_is_told_is_as_it_was_passed(self):
        sea, bridges, wishes = Sea.read("islands ash elm"), (5,), (9,)
        coast = Coast(sea, bridges, wishes)
        for _ in range(2):
            self.assertIs(coast.sea, sea)
            self.assertIs(coast.wishes, wishes)
            self.assertEqual([coast.bridges, coast.bridges.__class__], [(5,), tuple])
        self.assertEqual(Coast(BAY, RING, 7).wishes, 7)
        coast.fall("elm", "ash", 1)
        self.assertEqual([bridges, coast.bridges, coast.bridges.__class__], [(5,), (4,), tuple])

    def test_properties_and_methods_stand_in_the_class_itself(self):
        for name in ("sea", "wishes", "bridges", "built", "changes"):
            self.assertIsInstance(vars(Coast)[name], property)
            self.assertRaises(AttributeError, setattr, self.three(), name, 1)
        for name in ("__init__", "fall", "build", "undo", "lacking", "trial", "tried"):
            self.assertIn(name, vars(Coast))


class WrongArgumentTest(CoastCase):
    def calls(self, coast, one, other, many):
        """Both methods, by position and by name."""
        for method in (coast.fall, coast.build):
            yield lambda: method(one, other, many)
            yield lambda: method(many=many, other=other, one=one)

    def test_no_number(self):
        coast = self.three()
        for many in NO_MANY:
            for call in self.calls(coast, "ash", "oak", many):
                self.assert_error(coast, "InvalidNumber", many, call)

    def test_no_islands(self):
        coast = self.three()
        for bad in NO_ISLANDS:
            for many in (1, 0, None, MOST):
                for call in self.calls(coast, bad, "oak", many):
                    self.assert_error(coast, "UnknownName", bad, call)
                for call in self.calls(coast, "oak", bad, many):
                    self.assert_error(coast, "UnknownName", bad, call)
            for call in self.calls(coast, bad, "elk", 1):
                self.assert_error(coast, "UnknownName", bad, call)

    def test_the_same_island_twice(self):
        coast = self.three()
        for island, many in itertools.product(BAY.islands, (1, 0, "1", MOST + 1)):
            for call in self.calls(coast, island, island, many):
                self.assert_error(coast, "UnknownName", island, call)

    def test_too_many_that_fall(self):
        for has, more in [(0, 1), (0, MOST), (1, 1), (7, MOST - 7), (MOST - 1, 1)]:
            coast = Coast(Sea(("c", "b", "a")), (has, has, has), 2)
            for one, other in itertools.permutations("abc", 2):
                self.assert_error(coast, "TooMany", (one, other), coast.fall, one, other, has + more)
                if has > 0:
                    coast.fall(one, other, has)
                    self.assertEqual(sorted(coast.bridges), [0, has, has])
                    coast.undo()

    def test_too_many_that_are_built(self):
        for has, more in [(MOST, 1), (MOST, MOST), (MOST - 1, 2), (1, MOST), (MOST // 2, MOST // 2 + 1)]:
            coast = Coast(Sea(("c", "b", "a")), (has, has, has), 2)
            for one, other in itertools.permutations("abc", 2):
                self.assert_error(coast, "TooMany", (one, other), coast.build, one, other, more)
                if has < MOST:
                    coast.build(one, other, MOST - has)
                    self.assertEqual(sorted(coast.bridges), [has, has, MOST])
                    coast.undo()

    def test_nothing_to_undo(self):
        coast = Coast(BAY, STAR, 2)
        self.assert_error(coast, "NothingToUndo", None, coast.undo)
        coast.build("ash", "elm", 1)
        coast.undo()
        self.assert_error(coast, "NothingToUndo", None, coast.undo)


class TrialTest(CoastCase):
    def use(self, coast):
        """Some changes, among them one that is taken back and one that was there before."""
        coast.build("elm", "yew", 3)
        coast.fall("oak", "yew", 2)
        coast.undo()
        coast.undo()
        coast.undo()
        coast.build("ash", "yew", 1)

    def test_a_block_that_ends_of_itself(self):
        coast = self.three()
        before = seen(coast)
        with coast.trial() as held:
            self.assertIs(held, coast)
            self.assertEqual(seen(coast), before)
            self.use(held)
            self.assertEqual([coast.changes, coast.bridges], [3, (1, 5, 3, 2, 0, 2)])
        self.assertEqual(seen(coast), before)
        with coast.trial():
            coast.build("elm", "yew", 3)
        self.assertEqual(seen(coast), before)
        coast.undo()
        self.assertEqual(coast.bridges, (1, 5, 2, 2, 0, 2))

    def test_a_block_that_ends_with_an_exception(self):
        for kind in (Stop, KeyError, errors.TooMany, errors.NothingToUndo, KeyboardInterrupt, GeneratorExit, SystemExit):
            coast = self.three()
            before, error = seen(coast), kind(*([0] if kind is errors.TooMany else []))
            with self.assertRaises(kind) as held:
                with coast.trial():
                    self.use(coast)
                    raise error
            self.assertIs(held.exception, error)
            self.assertEqual(seen(coast), before)

    def test_an_error_of_the_coast_itself(self):
        coast = self.three()
        before = seen(coast)
        with self.assertRaises(errors.TooMany):
            with coast.trial():
                coast.fall("oak", "yew", 2)
                coast.fall("oak", "yew", 1)
        self.assertEqual(seen(coast), before)

    def test_a_block_that_is_left_early(self):
        coast = self.three()
        before = seen(coast)

        def left():
            with coast.trial():
                self.use(coast)
                return coast.changes

        self.assertEqual(left(), 3)
        self.assertEqual(seen(coast), before)
        for _ in range(3):
            with coast.trial():
                self.use(coast)
                continue
        self.assertEqual(seen(coast), before)
        while True:
            with coast.trial():
                self.use(coast)
                break
        self.assertEqual(seen(coast), before)

    def test_trials_within_trials(self):
        coast = self.three()
        told = [seen(coast)]
        with coast.trial():
            coast.build("elm", "yew", 1)
            told.append(seen(coast))
            with self.assertRaises(Stop):
                with coast.trial():
                    coast.fall("elm", "yew", 1)
                    told.append(seen(coast))
                    with coast.trial() as held:
                        self.use(held)
                    self.assertEqual(seen(coast), told[2])
                    raise Stop
            self.assertEqual(seen(coast), told[1])
            coast.undo()
            coast.undo()
        self.assertEqual(seen(coast), told[0])

    def test_one_trial_used_again(self):
        coast = self.three()
        before, trial = seen(coast), coast.trial()
        for _ in range(2):
            with trial as held:
                self.assertIs(held, coast)
                self.use(coast)
            self.assertEqual(seen(coast), before)
        coast.build("elm", "yew", 1)
        changed = seen(coast)
        with trial:
            self.use(coast)
        self.assertEqual(seen(coast), changed)

    def test_one_trial_within_itself(self):
        coast = self.three()
        before, trial = seen(coast), coast.trial()
        with trial:
            coast.build("elm", "yew", 1)
            within = seen(coast)
            with trial:
                coast.build("elm", "yew", 1)
                with trial:
                    self.use(coast)
            self.assertEqual(seen(coast), within)
        self.assertEqual(seen(coast), before)

    def test_a_call_alone_changes_nothing(self):
        coast = self.three()
        before = seen(coast)
        trial = coast.trial()
        self.assertEqual(seen(coast), before)
        coast.build("elm", "yew", 1)
        changed = seen(coast)
        self.assertTrue(trial)
        del trial
        self.assertEqual(seen(coast), changed)

    def test_it_begins_with_its_block_and_not_with_its_call(self):
        coast = self.three()
        trial = coast.trial()
        coast.build("elm", "yew", 1)
        changed = seen(coast)
        with trial:
            coast.undo()
            coast.undo()
        self.assertEqual(seen(coast), changed)

    def test_two_coasts_at_once(self):
        one, other = self.three(), self.three()
        before = seen(one)
        with one.trial() as first, other.trial() as second:
            self.assertTrue(first is one and second is other)
            self.use(one)
            self.assertEqual(seen(other), before)
        other.undo()
        self.assertEqual([seen(one), other.changes], [before, 2])

    def test_tried(self):
        coast = self.three()
        before, result = seen(coast), nested(9)

        def action(held):
            self.assertIs(held, coast)
            self.use(held)
            return result

        for told in (coast.tried(action), coast.tried(action=action)):
            self.assertIs(told, result)
            self.assertEqual(seen(coast), before)
        self.assertIsNone(coast.tried(self.use))
        self.assertEqual([coast.tried(Coast.lacking), coast.tried(lambda held: held) is coast], [coast.lacking(), True])
        self.assertEqual(coast.tried(lambda held: held.tried(lambda within: within.undo()) or held.changes), 3)
        self.assertEqual(seen(coast), before)

    def test_tried_with_an_exception(self):
        coast = self.three()
        before = seen(coast)

        def action(held):
            self.use(held)
            raise Stop

        self.assertRaises(Stop, coast.tried, action)
        self.assertEqual(seen(coast), before)
        with self.assertRaises(errors.TooMany) as held:
            coast.tried(lambda held: held.fall("ash", "elm", 9))
        self.assertEqual([held.exception.given, seen(coast)], [("ash", "elm"), before])


class EqualityTest(CoastCase):
    def test_equal_to_itself_alone(self):
        coast, other = Coast(BAY, RING, 4), Coast(BAY, RING, 4)
        self.assertTrue(coast == coast and not coast != coast)
        self.assertTrue(coast != other and not coast == other)
        coast.build("ash", "elm", 1)
        self.assertTrue(coast == coast and not coast != coast)
        for value in [*ANYTHING, Hostile(), Yes(), BAY, RING, 4, coast.trial()]:
            self.assertIs(coast == value, False)
            self.assertIs(coast != value, True)

    def test_every_coast_is_true(self):
        self.assertIs(bool(Coast(STRAIT, (0,), 2)), True)
        self.assertIs(bool(self.three()), True)


if __name__ == "__main__":
    unittest.main()

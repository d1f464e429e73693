"""Wrong arguments, and what holds for each call, whichever function it is."""

import inspect
import itertools
import unittest

from sparebridges import errors
from sparebridges.arrows import arrows_needed, new_arrows
from sparebridges.certificates import certify_arrows, certify_between, certify_ends, certify_needed, certify_ways
from sparebridges.checker import accepts
from sparebridges.closing import closable
from sparebridges.coasts import Coast
from sparebridges.ends import are_ends, cheapest, end_range, new_bridges
from sparebridges.growth import grown
from sparebridges.needed import for_all, joined, needed
from sparebridges.offers import fulfilling
from sparebridges.oneway import in_range, ins_of, most_ways, one_way, ways_of
from sparebridges.seas import Sea
from sparebridges.strengths import between, cut, is_fulfilled, least_cuts, strength, tree
from tests.samples import BAY, MOST, RING, SEAS, STAR, STRAIT
from tests.values import ANYTHING, nested

BRIDGES, WISHED, TWO = ("sea", "bridges"), ("sea", "bridges", "wishes"), ("one", "other")
SIGNATURES = {
    strength: BRIDGES, between: BRIDGES + TWO, cut: BRIDGES + TWO, least_cuts: BRIDGES, tree: BRIDGES,
    is_fulfilled: WISHED, needed: WISHED, joined: BRIDGES, for_all: BRIDGES, end_range: WISHED + ("island",),
    are_ends: WISHED + ("value",), cheapest: WISHED + ("prices",), new_bridges: WISHED + ("ends",),
    closable: WISHED + TWO, fulfilling: WISHED + ("offers",), most_ways: BRIDGES,
    one_way: BRIDGES + ("strong", "ins"), in_range: BRIDGES + ("strong", "island"), ways_of: BRIDGES + ("forward",),
    ins_of: BRIDGES + ("forward",), arrows_needed: BRIDGES + ("forward", "strong"),
    new_arrows: BRIDGES + ("forward", "strong"), grown: ("sea", "start", "growth"), Coast: WISHED,
    certify_between: BRIDGES + TWO, certify_needed: WISHED, certify_ends: WISHED + ("island",),
    certify_ways: BRIDGES + ("strong",), certify_arrows: BRIDGES + ("forward", "strong"),
    accepts: ("claim", "certificate"),
}
MODULES = {
    "strengths": [strength, between, cut, least_cuts, tree, is_fulfilled], "needed": [needed, joined, for_all],
    "ends": [end_range, are_ends, cheapest, new_bridges], "closing": [closable], "offers": [fulfilling],
    "oneway": [most_ways, one_way, in_range, ways_of, ins_of], "arrows": [arrows_needed, new_arrows],
    "growth": [grown], "coasts": [Coast], "checker": [accepts],
    "certificates": [certify_between, certify_needed, certify_ends, certify_ways, certify_arrows],
}
# These do for RING, and with STAR they are too much.
GOOD = {
    "sea": BAY, "bridges": RING, "wishes": 4, "one": "elm", "other": "yew", "island": "oak", "value": (1, 1, 1, 1),
    "prices": (3, 1, 0, 2), "ends": (2, 2, 2, 2), "offers": (("oak", "ash", 3), ("elm", "yew", MOST)), "strong": 2,
    "ins": (2, 2, 2, 2), "forward": (1, 2, 0, 1, 0, 2), "start": RING, "growth": (1, 0, 0, 9, 0, 0),
    "claim": ("ways", str(BAY), RING, 1), "certificate": (1, 0, 1, 1, 0, 1),
}
# Beside a one-way table, so that each of its elements has the same bounds.
TWICE = (2,) * 6
NO_TUPLES = [value for value in ANYTHING if not isinstance(value, tuple)]
NO_INTEGERS = [value for value in ANYTHING if not isinstance(value, int) or isinstance(value, bool)]
# What is no element, with an element in its place, for each sequence: the least and the greatest ones, then the error.
SEQUENCES = {
    "bridges": (0, MOST, "InvalidBridges"), "wishes": (2, MOST, "InvalidWishes"),
    "prices": (0, 10 ** 6, "InvalidPrices"), "ends": (0, None, "InvalidEnds"), "ins": (0, None, "InvalidEnds"),
    "forward": (0, 2, "InvalidForward"), "start": (0, 99, "InvalidBridges"), "growth": (0, 9, "InvalidGrowth"),
}
# They have an element for each island, not for each pair; and two of them may be left out.
FOR_ISLANDS, LEFT_OUT = ("prices", "ends", "ins"), ("ends", "ins")
UNKNOWN = [*ANYTHING, "Ash", "ASH", " ash", "ash ", "as", "ashe", "ash elm", ("ash",), ["ash"], 0, 1, BAY]


def good_for(function):
    names = SIGNATURES[function]
    return {name: TWICE if name == "bridges" and "forward" in names else GOOD[name] for name in names}


def bad_elements(name):
    least, most, _ = SEQUENCES[name]
    out_of_bounds = [least - 1, -1, -10 ** 30, -10 ** 79] + ([] if most is None else [most + 1, 10 ** 79])
    return [*NO_INTEGERS, *out_of_bounds, str(least + 1), (least + 1,), [least + 1]]


def wrong_sequences(name, many):
    """Values that are wrong for a sequence of so many elements, each with its index."""
    least, _, _ = SEQUENCES[name]
    right = (least + 1,) * many
    for value in [*NO_TUPLES, list(right), [], str(right), {3: 3}, iter(right), BAY]:
        # Some integers are wished strengths, and None is what ends may be, too.
        good = name == "wishes" and value.__class__ is int and 2 <= value <= MOST
        if not good and not (name in LEFT_OUT and value is None):
            yield value, None
    for value in [(), right[1:], right + right[:1], right * 2, (None,) * (many - 1), (True,) * (many + 1)]:
        yield value, None
    for place in range(many):
        head, tail = right[:place], right[place + 1:]
        for bad in bad_elements(name):
            yield (*head, bad, *tail), place
            yield (*head, bad, *[least - 1] * len(tail)), place
        yield (*head, -1, *tail, 1), None


def wrong_values(name, sea=BAY):
    """Wrong values of a parameter, each with the error's class and its attribute."""
    if name == "sea":
        for value in [*ANYTHING, str(BAY), BAY.islands, BAY.pairs, Sea, [BAY], (BAY,)]:
            yield value, "NotASea", value
    elif name in SEQUENCES:
        many = len(sea) if name in FOR_ISLANDS else len(sea.pairs)
        for value, index in wrong_sequences(name, many):
            yield value, SEQUENCES[name][2], index
        if name == "wishes":
            for value in (1, 0, -1, -2, MOST + 1, 10 ** 79, -MOST, True, False):
                yield value, "InvalidWishes", None
    elif name in ("one", "other", "island"):
        for value in UNKNOWN:
            yield value, "UnknownName", value
        if name == "other":
            yield "elm", "UnknownName", "elm"
            yield "".join(["e", "lm"]), "UnknownName", "elm"
    elif name == "strong":
        for value in [*NO_INTEGERS, -1, -2, -MOST, -10 ** 79, "2", (2,), [2]]:
            yield value, "InvalidNumber", value
    elif name == "offers":
        for value, index in wrong_offers():
            yield value, "InvalidOffers", index


def wrong_offers():
    """Values that are no offers in BAY, each with its index."""
    right = ("elm", "oak", 1)
    for value in [*NO_TUPLES, [right], [], {right: 1}, iter([right]), BAY]:
        yield value, None
    for bad in bad_offers():
        for before in range(6):
            for behind in (0, 1, 9):
                yield (right,) * before + (bad,) + (right,) * behind, before
        yield (right, bad, bad), 1
        yield (right,) * 6 + (bad, right), 6
    for many in (7, 8, 40):
        yield (right,) * many, 6


def bad_offers():
    """Values that are no offer in BAY."""
    yield from [*ANYTHING, ["elm", "oak", 1], {"elm": 1, "oak": 2, "ash": 3}, "elm oak 1", "elm"]
    yield from [("elm", "oak"), ("elm", "oak", 1, 1), ("oak",), (("elm", "oak"), 1), ("elm", "oak", (1,))]
    for bad in UNKNOWN:
        yield from [(bad, "elm", 1), ("elm", bad, 1), (bad, bad, 1)]
    for island in BAY.islands:
        yield island, "".join(list(island)), 1
    for bad in [*NO_INTEGERS, 0, -1, -2, MOST + 1, 10 ** 79, -MOST, "1"]:
        yield "elm", "oak", bad


def few_wrong_values(name):
    """A few of the wrong values, the last one among them."""
    every = list(wrong_values(name))
    return [every[index] for index in sorted({0, len(every) // 3, len(every) // 2, len(every) - 1})] if every else []


def plain(value):
    """Whether a value is made of None, strings, True, False, integers and tuples, and of no classes under these."""
    if value.__class__ is tuple:
        return all(plain(element) for element in value)
    return value is None or value.__class__ in (str, bool, int)


def seen(answer):
    """An answer, or what a coast tells of itself, since no two of these are equal."""
    if isinstance(answer, Coast):
        return (answer.sea.islands, answer.bridges, answer.wishes, answer.built, answer.changes, answer.lacking())
    return answer


class ArgumentsCase(unittest.TestCase):
    def assert_raises(self, function, told, wrong, given):
        """All arguments by position, by name, and some so and some so: each time this error."""
        values = list(told.values())
        for split in {0, len(values) // 2, len(values)}:
            named = {name: told[name] for name in reversed(list(told)[split:])}
            with self.assertRaises(getattr(errors, wrong), msg=(function, told)) as held:
                function(*values[:split], **named)
            error = held.exception
            self.assertIs(error.__class__, getattr(errors, wrong), (function, told))
            if hasattr(error, "index"):
                self.assertEqual((error.index, error.index.__class__), (given, given.__class__), (function, told))
            elif isinstance(given, (str, int)):
                self.assertEqual((error.given, error.given.__class__), (given, given.__class__), (function, told))
            else:
                self.assertIs(error.given, given, (function, told))


class WrongArgumentTest(ArgumentsCase):
    def check(self, name, sea=BAY, **good):
        for function in SIGNATURES:
            if name in SIGNATURES[function]:
                for value, wrong, given in wrong_values(name, sea):
                    self.assert_raises(function, {**good_for(function), **good, name: value}, wrong, given)

    def test_no_sea(self):
        self.check("sea")

    def test_no_bridges(self):
        self.check("bridges")

    def test_no_wishes(self):
        self.check("wishes")

    def test_no_islands(self):
        self.check("one")
        self.check("other")
        self.check("island")

    def test_no_prices(self):
        self.check("prices")

    def test_no_ends(self):
        self.check("ends")
        self.check("ins")

    def test_no_offers(self):
        self.check("offers")

    def test_no_number_of_ways(self):
        self.check("strong")

    def test_no_one_way_table(self):
        self.check("forward")

    def test_no_one_way_table_for_these_bridges(self):
        bridges, right = (3, 0, MOST, 1, 2, 9), (3, 0, MOST, 0, 1, 9)
        for function in SIGNATURES:
            if "forward" in SIGNATURES[function]:
                told = {**good_for(function), "bridges": bridges, "forward": right}
                function(**told)
                for place in range(6):
                    more = (*right[:place], bridges[place] + 1, *right[place + 1:])
                    self.assert_raises(function, {**told, "forward": more}, "InvalidForward", place)
                    self.assert_raises(function, {**told, "forward": more[:5] + (99,)}, "InvalidForward", min(place, 5))
                self.assert_raises(function, {**told, "forward": bridges + (0,)}, "InvalidForward", None)

    def test_no_growing_bridges(self):
        self.check("start")
        self.check("growth")

    def test_wrong_sequences_in_seas_of_each_size(self):
        for sea, name in itertools.product(SEAS[::2], SEQUENCES):
            function = {
                "bridges": strength, "wishes": needed, "prices": cheapest, "ends": new_bridges, "ins": one_way,
                "forward": ways_of, "start": grown, "growth": grown}[name]
            many = len(sea) if name in FOR_ISLANDS else len(sea.pairs)
            twos = (2,) * len(sea.pairs)
            good = {"sea": sea, "bridges": twos, "wishes": 2, "strong": 1, "start": twos, "growth": twos}
            told = {key: good.get(key) for key in SIGNATURES[function]}
            for value, index in wrong_sequences(name, many):
                self.assert_raises(function, {**told, name: value}, SEQUENCES[name][2], index)

    def test_the_same_island_twice(self):
        for function in (between, cut, closable, certify_between):
            for island in BAY.islands:
                told = {**good_for(function), "one": island, "other": island}
                self.assert_raises(function, told, "UnknownName", island)


class FirstErrorTest(ArgumentsCase):
    def test_the_first_of_two_wrong_arguments(self):
        for function, names in SIGNATURES.items():
            for first, second in itertools.combinations(names, 2):
                for value, wrong, given in few_wrong_values(first):
                    for other, _, _ in few_wrong_values(second):
                        told = {**good_for(function), first: value, second: other}
                        self.assert_raises(function, told, wrong, given)

    def test_the_first_of_many_wrong_arguments(self):
        for function, names in SIGNATURES.items():
            wrong_from = {name: few_wrong_values(name) for name in names}
            for at, name in enumerate(names):
                for value, wrong, given in wrong_from[name]:
                    others = {later: told[0][0] for later, told in wrong_from.items() if told}
                    earlier = {before: good_for(function)[before] for before in names[:at]}
                    told = {key: {**good_for(function), **others, name: value, **earlier}[key] for key in names}
                    self.assert_raises(function, told, wrong, given)

    def test_the_first_of_both_islands(self):
        for function in (between, cut, closable, certify_between):
            for one, other in itertools.product(["oaks", None, 5, "Elm"], repeat=2):
                told = {**good_for(function), "one": one, "other": other}
                self.assert_raises(function, told, "UnknownName", one)

    def test_too_weak_comes_last(self):
        weak = {"sea": BAY, "bridges": STAR, "wishes": 4, "one": "elm", "other": "yew"}
        self.assert_raises(closable, weak, "TooWeak", 2)
        for name in weak:
            for value, wrong, given in few_wrong_values(name):
                self.assert_raises(closable, {**weak, name: value}, wrong, given)
        for island in BAY.islands:
            self.assert_raises(closable, {**weak, "one": island, "other": island}, "UnknownName", island)

    def test_too_few_ways_come_last(self):
        weak = {"sea": BAY, "bridges": STAR, "strong": 2, "ins": None, "island": "yew"}
        for function in (one_way, in_range):
            told = {name: weak[name] for name in SIGNATURES[function]}
            for strong in (2, 3, MOST, 10 ** 79):
                self.assert_raises(function, {**told, "strong": strong}, "TooWeak", 1)
            for name in told:
                for value, wrong, given in few_wrong_values(name):
                    self.assert_raises(function, {**told, name: value}, wrong, given)
        for ins in [(9, 0, 0, 0), (0, 0, 0, 0), (3, 2, 2, 2), (10 ** 79,) * 4]:
            self.assert_raises(one_way, {"sea": BAY, "bridges": STAR, "strong": 2, "ins": ins}, "TooWeak", 1)

    def test_a_value_is_no_wrong_argument(self):
        for value in ANYTHING:
            self.assertIs(are_ends(BAY, RING, 4, value), False)
            self.assertIs(are_ends(value=value, wishes=4, bridges=RING, sea=BAY), False)
            for name in WISHED:
                for bad, wrong, given in few_wrong_values(name):
                    self.assert_raises(are_ends, {**good_for(are_ends), name: bad, "value": value}, wrong, given)


class RightArgumentTest(unittest.TestCase):
    def test_signatures(self):
        for function, names in SIGNATURES.items():
            told = inspect.signature(function).parameters.values()
            self.assertEqual(tuple(one.name for one in told), names)
            self.assertEqual({one.kind for one in told}, {inspect.Parameter.POSITIONAL_OR_KEYWORD})
            self.assertEqual([one.default for one in told if one.default is not one.empty],
                             [None] if function in (new_bridges, one_way) else [])

    def test_functions_are_defined_in_their_files(self):
        for module, functions in MODULES.items():
            for function in functions:
                self.assertEqual(function.__module__, "sparebridges." + module)

    def test_by_position_and_by_name(self):
        for function in SIGNATURES:
            told = good_for(function)
            answer = seen(function(*told.values()))
            self.assertEqual(seen(function(**told)), answer)
            self.assertEqual(seen(function(**{name: told[name] for name in reversed(told)})), answer)

    def test_least_and_greatest_elements(self):
        for sea in SEAS:
            many, one, other = len(sea.pairs), sea.islands[0], sea.islands[-1]
            wished = [2, MOST, (2,) * many, (MOST,) * many]
            for bridges, wishes in itertools.product([(0,) * many, (MOST,) * many], wished):
                told = {
                    "sea": sea, "bridges": bridges, "wishes": wishes, "one": one, "other": other, "island": one,
                    "value": (0,) * len(sea), "prices": (0, 10 ** 6, 0, 10 ** 6, 0)[:len(sea)],
                    "ends": (0, 10 ** 79, 0, 10 ** 79, 0)[:len(sea)], "strong": 0, "forward": bridges,
                    "ins": (0, 10 ** 79, 0, 10 ** 79, 0)[:len(sea)], "start": tuple(min(99, has) for has in bridges),
                    "growth": tuple(min(9, has) for has in bridges), "offers": ((one, other, MOST), (other, one, 1)) * 3,
                    "claim": ("no ways", str(sea), bridges, 10 ** 79), "certificate": (one,),
                }
                for function, names in SIGNATURES.items():
                    try:
                        self.assertTrue(plain(seen(function(**{name: told[name] for name in names}))))
                    except errors.TooWeak as error:
                        self.assertEqual((function, sum(bridges)), (closable, 0))
                        self.assertTrue(plain(error.given))

    def test_equal_arguments_have_equal_results_of_plain_kinds(self):
        for function, names in SIGNATURES.items():
            for bridges, wishes in [(RING, 4), (STAR, 3), (RING, (2, 4, 3, 2, 2, 3)), (STAR, (3, 3, 3, 2, 2, 2))]:
                answers = []
                for _ in range(2):
                    told = good_for(function)
                    if "sea" in names:
                        told["sea"] = Sea.read(str(BAY))
                    if "bridges" in names and "forward" not in names:
                        told["bridges"] = tuple(list(bridges))
                    if "wishes" in names:
                        told["wishes"] = tuple(list(wishes)) if isinstance(wishes, tuple) else wishes
                    if "strong" in names:
                        told["strong"] = 1
                    answers.append(seen(function(**told)))
                self.assertEqual(repr(answers[0]), repr(answers[1]))
                self.assertTrue(plain(answers[0]), (function, answers[0]))

    def test_nothing_is_changed(self):
        sea, listed, within = Sea.read(str(BAY)), [1, 2, 3], (1, [2, 3], {"a": nested(3)}, 1, 1, 1)
        for function, names in SIGNATURES.items():
            told = good_for(function)
            function(**{name: sea if name == "sea" else told[name] for name in names})
            for name, value in itertools.product(names, (listed, within)):
                if name not in ("value", "claim", "certificate"):
                    self.assertRaises(errors.WrongName if name in ("one", "other", "island") else errors.WrongValue,
                                      function, **{**good_for(function), name: value})
        self.assertEqual([listed, within], [[1, 2, 3], (1, [2, 3], {"a": nested(3)}, 1, 1, 1)])
        self.assertEqual((sea, sea.islands, sea.pairs), (BAY, BAY.islands, BAY.pairs))

    def test_what_has_been_returned_may_be_passed_on(self):
        built = new_bridges(BAY, STAR, 4)
        self.assertEqual(strength(BAY, tuple(a + b for a, b in zip(STAR, built))), 4)
        _, ends = cheapest(BAY, STAR, 4, (1, 1, 1, 1))
        self.assertIs(are_ends(BAY, STAR, 4, ends), True)
        self.assertIsNotNone(new_bridges(BAY, STAR, 4, ends))
        for one, other, number in tree(BAY, STAR):
            self.assertEqual(between(BAY, STAR, one, other), number)
        self.assertEqual(new_bridges(STRAIT, new_bridges(STRAIT, (0,), 9), 9), (0,))
        table = one_way(BAY, STAR, 1)
        self.assertEqual(one_way(BAY, STAR, 1, ins_of(BAY, STAR, table)), table)
        self.assertEqual(arrows_needed(BAY, STAR, table, most_ways(BAY, STAR)), 0)


if __name__ == "__main__":
    unittest.main()

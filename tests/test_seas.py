import itertools
import re
import unittest

from sparebridges.errors import InvalidIslands, InvalidText
from sparebridges.seas import Sea
from tests.values import ANYTHING, NO_STRINGS, WORDS, Hostile, Yes, nested

SEAS = [
    ("a", "b"), ("b", "a"), ("b", "c", "a"), ("ash", "elm", "oak", "yew"), ("islands", "a"),
    ("z9", "z", "z99", "a0", "m"), ("abcdefgh", "a1234567"), ("e", "d", "c", "b", "a"),
]
BAD_NAMES = [
    "", "abcdefghi", "a12345678", "0", "1a", "9abc", "A", "Ash", "aSh", "asH", " ", " a", "a ", "a b",
    "\n", "a\n", "\na", "abcdefg\n", "a_b", "_a", "a-b", "a.", "a`", "a{", "a/", "a:", "a@", "a[", "~",
    "x" * 2000,
]
BAD_ISLANDS = [*BAD_NAMES, *NO_STRINGS]
NO_TUPLES = [value for value in ANYTHING if not isinstance(value, tuple)]


class SeaTest(unittest.TestCase):
    def test_examples_of_the_document(self):
        bay, strait = Sea.read("islands ash elm oak yew"), Sea(("a", "b"))
        pairs = (("ash", "elm"), ("ash", "oak"), ("ash", "yew"), ("elm", "oak"), ("elm", "yew"), ("oak", "yew"))
        told = [bay.pairs, len(bay), "oak" in bay, str(strait), bay == Sea(("ash", "elm", "oak", "yew"))]
        self.assertEqual(told, [pairs, 4, True, "islands a b", True])
        with self.assertRaises(InvalidIslands) as held:
            Sea(("a", "b", "a"))
        self.assertEqual(held.exception.index, 2)

    def test_made_by_position_and_by_name(self):
        for islands in SEAS:
            for sea in (Sea(islands), Sea(islands=islands)):
                self.assertIs(sea.islands, islands)
                self.assertEqual(len(sea), len(islands))
                self.assertEqual(str(sea), " ".join(("islands",) + islands))
                self.assertIs(bool(sea), True)

    def test_pairs_stand_in_the_order_of_the_islands(self):
        self.assertEqual(Sea(("a", "b")).pairs, (("a", "b"),))
        self.assertEqual(Sea(("c", "a", "b")).pairs, (("c", "a"), ("c", "b"), ("a", "b")))
        for islands in SEAS:
            pairs = Sea(islands).pairs
            self.assertEqual(pairs, tuple(itertools.combinations(islands, 2)))
            self.assertEqual({pairs.__class__, *[pair.__class__ for pair in pairs]}, {tuple})

    def test_islands_are_in_the_sea_and_nothing_else(self):
        for islands in SEAS:
            sea = Sea(islands)
            self.assertEqual([island in sea for island in islands], [True] * len(islands))
            for value in [*ANYTHING, *BAD_NAMES, "as", "shel", "ash elm", "c1", islands, sea, Sea]:
                known = isinstance(value, str) and value in islands
                self.assertIs(value in sea, known)
                self.assertIs(value not in sea, not known)

    def test_an_island_is_found_by_an_equal_string(self):
        self.assertIn("".join(["a", "sh"]), Sea(("ash", "elm")))

    def test_objects_stay_as_they_were_made(self):
        islands = ("c", "a", "b")
        sea = Sea(islands)
        for _ in range(2):
            told = [sea.islands, sea.pairs, len(sea), str(sea), "a" in sea, 1 in sea, sea == 3]
            self.assertEqual(
                told, [("c", "a", "b"), (("c", "a"), ("c", "b"), ("a", "b")), 3, "islands c a b", True, False, False])
        self.assertIs(sea.islands, islands)
        for name in ("islands", "pairs"):
            self.assertRaises(AttributeError, setattr, sea, name, ())

    def test_methods_stand_in_the_class_itself(self):
        for name in ("read", "islands", "pairs", "__contains__", "__len__", "__str__", "__eq__"):
            self.assertIn(name, vars(Sea))
        self.assertEqual(Sea.__module__, "sparebridges.seas")


class RefusedTest(unittest.TestCase):
    def assert_refused(self, islands, index):
        for made in (lambda: Sea(islands), lambda: Sea(islands=islands)):
            with self.assertRaises(InvalidIslands) as held:
                made()
            self.assertEqual(held.exception.index, index)
            self.assertNotIsInstance(held.exception.index, bool)

    def test_no_tuple(self):
        for value in [*NO_TUPLES, "ab", ["a", "b", "c"], ["a", 5], {"a": 1, "b": 2}, Sea(("a", "b"))]:
            self.assert_refused(value, None)

    def test_fewer_than_two_is_asked_ahead_of_the_elements(self):
        self.assert_refused((), None)
        for value in [*ANYTHING, *BAD_NAMES]:
            self.assert_refused((value,), None)

    def test_no_names(self):
        for bad in BAD_ISLANDS:
            self.assert_refused((bad, "b"), 0)
            self.assert_refused(("b", bad), 1)
            self.assert_refused(("b", bad, "c"), 1)
            self.assert_refused(("b", "c", "d", "e", bad), 4)

    def test_every_sign_that_is_no_letter_and_no_digit(self):
        letters, digits = "abcdefghijklmnopqrstuvwxyz", "0123456789"
        for sign in ["\n", *[chr(code) for code in range(32, 127)]]:
            for name in ("x" + sign + "y", "x" + sign):
                if sign in letters + digits:
                    self.assertEqual(Sea(("q", name)).islands, ("q", name))
                else:
                    self.assert_refused(("q", name), 1)
            if sign in letters:
                self.assertEqual(Sea(("qq", sign)).islands, ("qq", sign))
            else:
                self.assert_refused(("qq", sign), 1)
                self.assert_refused(("qq", sign + "a"), 1)

    def test_eight_and_nine_characters(self):
        self.assertEqual(len(Sea(("abcdefgh", "a2345678"))), 2)
        self.assert_refused(("abcdefgh", "abcdefghi"), 1)
        self.assert_refused(("a23456789", "abcdefgh"), 0)

    def test_equal_names(self):
        self.assert_refused(("a", "a"), 1)
        self.assert_refused(("a", "b", "a", "b"), 2)
        self.assert_refused(("a", "b", "c", "d", "d"), 4)

    def test_wrong_and_equal_elements_in_both_orders(self):
        for bad in BAD_ISLANDS:
            self.assert_refused(("a", "a", bad), 1)
            self.assert_refused(("a", bad, "a"), 1)
            self.assert_refused((bad, bad), 0)
            self.assert_refused(("a", "b", bad, bad), 2)

    def test_more_than_five(self):
        five = ("a", "b", "c", "d", "e")
        self.assertEqual(len(Sea(five)), 5)
        for more in [("f",), ("a",), ("",), (5,), ("f", "g"), ("f", "a"), ([], "f"), tuple("fghijklmnop")]:
            self.assert_refused(five + more, 5)
        self.assert_refused(("a", "b", "a", "d", "e", "f"), 2)
        self.assert_refused(("a", "b", "c", "d", "a", "f", "g"), 4)
        for bad in BAD_ISLANDS:
            self.assert_refused((bad,) + five, 0)
            self.assert_refused(("a", "b", "c", "d", bad, "e", "f"), 4)
            self.assert_refused(five + (bad, "f"), 5)

    def test_all_short_tuples_of_some_elements(self):
        for many in range(2, 7):
            for islands in itertools.product(("a", "b", "c1", "C", None), repeat=many):
                index = first_wrong(islands)
                if index is None:
                    self.assertEqual(Sea(islands).islands, islands)
                else:
                    self.assert_refused(islands, index)

    def test_what_was_passed_stays_as_it_was(self):
        listed, islands = ["a", "b", "a"], ("a", ["b"], {"c": 1})
        self.assert_refused(listed, None)
        self.assert_refused(islands, 1)
        self.assertEqual([listed, islands], [["a", "b", "a"], ("a", ["b"], {"c": 1})])


def first_wrong(islands):
    """Works the index out anew from the words of the document."""
    for index in range(len(islands)):
        good = [name for name in islands[:index + 1] if re.fullmatch("[a-z][a-z0-9]{0,7}", str(name))]
        if len(set(good)) < index + 1 or index == 5:
            return index
    return None


class ReadTest(unittest.TestCase):
    def assert_refused(self, text):
        for made in (lambda: Sea.read(text), lambda: Sea.read(text=text)):
            with self.assertRaises(InvalidText) as held:
                made()
            self.assertIs(held.exception.given, text)

    def test_reads_the_text_of_each_sea(self):
        for islands in SEAS:
            text = str(Sea(islands))
            for sea in (Sea.read(text), Sea.read(text=text)):
                self.assertIs(sea.__class__, Sea)
                self.assertEqual([sea.islands, str(sea)], [islands, text])
                self.assertEqual(sea.pairs, Sea(islands).pairs)
                self.assertEqual(sea, Sea(islands))

    def test_an_island_called_islands(self):
        self.assertEqual(Sea.read("islands islands a").islands, ("islands", "a"))
        self.assertEqual(Sea.read("islands a islands").islands, ("a", "islands"))
        self.assert_refused("islands islands islands")
        self.assert_refused("islands islands")

    def test_other_strings(self):
        for text in [
            *WORDS[:4], *WORDS[5:], "a b", "island a b", "Islands a b", "ISLANDS a b", "islandsa b", "sea a b",
            "islands", "islands ", "islands a", "islands a ", "islands a b c d e f", "islands a b c d e f g",
            "islands a a", "islands a b a", " islands a b", "islands a b ", "islands  a b", "islands a  b",
            "islands a b\n", "\nislands a b", "islands\na b", "islands a\nb", "islands a b\n\n", "islands a, b",
            "islands a B", "islands a 1b", "islands a b_", "islands a b-c", "islands a abcdefghi", "islands a b c ",
            "a islands b", "a b islands", "islands ('a', 'b')", "islands " + "x" * 1990, "islands" + " a" * 900,
        ]:
            self.assert_refused(text)

    def test_no_strings(self):
        for value in [*NO_STRINGS, Sea(("a", "b")), ("islands", "a", "b"), ["islands", "a", "b"]]:
            self.assert_refused(value)

    def test_all_short_texts_of_some_parts(self):
        form = re.compile("islands((?: [a-z][a-z0-9]{0,7}){2,5})")
        parts = ("islands", " ", "a", "b1", "1", "\n", "B")
        for many in range(6):
            for tail in itertools.product(parts, repeat=many):
                for text in ("".join(tail), "islands " + "".join(tail)):
                    match = form.fullmatch(text)
                    names = match.group(1).split() if match else []
                    if match and len(names) == len(set(names)):
                        self.assertEqual(Sea.read(text).islands, tuple(names))
                    else:
                        self.assertRaises(InvalidText, Sea.read, text)


class EqualityTest(unittest.TestCase):
    def assert_equal_is(self, one, other, same):
        self.assertIs(one == other, same)
        self.assertIs(one != other, not same)

    def test_equal_exactly_if_the_texts_are(self):
        every = [islands for many in (2, 3) for islands in itertools.permutations(("a", "b", "ab", "a1"), many)]
        for one in every:
            for other in every:
                self.assert_equal_is(Sea(one), Sea(other), one == other)
                self.assertIs(Sea(one) == Sea(other), str(Sea(one)) == str(Sea(other)))

    def test_the_order_counts(self):
        self.assert_equal_is(Sea(("a", "b")), Sea(("b", "a")), False)
        self.assert_equal_is(Sea(("a", "b")), Sea(("a", "b", "c")), False)

    def test_made_and_read_seas_are_equal(self):
        sea = Sea(("oak", "ash"))
        self.assert_equal_is(sea, sea, True)
        self.assert_equal_is(sea, Sea.read("islands oak ash"), True)
        self.assert_equal_is(Sea.read("islands oak ash"), sea, True)

    def test_never_equal_to_values_of_another_class(self):
        sea = Sea(("a", "b"))
        for value in [*ANYTHING, str(sea), sea.islands, sea.pairs, list(sea.islands), len(sea), Sea]:
            self.assert_equal_is(sea, value, False)
            if not isinstance(value, (Hostile, Yes)):
                self.assert_equal_is(value, sea, False)

    def test_comparing_changes_nothing(self):
        sea, value = Sea(("a", "b")), nested(9)
        self.assert_equal_is(sea, value, False)
        self.assertEqual([sea.islands, sea.pairs, value], [("a", "b"), (("a", "b"),), nested(9)])


if __name__ == "__main__":
    unittest.main()

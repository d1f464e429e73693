import itertools
import random
import unittest

from sparebridges import errors
from sparebridges.books import Book
from sparebridges.ends import end_range
from sparebridges.needed import needed
from sparebridges.oneway import most_ways
from sparebridges.seas import Sea
from sparebridges.strengths import between
from tests import reference
from tests.samples import BAY, MOST, RING, SEAS, STAR, STRAIT, all_bridges, wishes_for
from tests.values import ANYTHING, Hostile, Yes, nested

NO_NAMES = [
    "", "abcdefghi", "A", "a b", "1a", "a_b", "a\n", " a", "a ", "x" * 2000, b"a", 1, 0, True, None, (), ("a",), ["a"],
    {"a": 1}, {"a"}, BAY, object(), Hostile(), Yes(), nested(99), len, str, ...]
NO_INTEGERS = [
    True, False, None, "0", "", b"0", (0,), [0], {0}, {}, (), object(), Hostile(), Yes(), nested(99), BAY, len, ...]
# Right values for the parts of a wish, by their kinds, and others that are wrong whatever the sea is.
KINDS = {
    "name": (["a", "abcdefgh", "z9"], NO_NAMES),
    "bridges": ([(0,), (MOST,), (1,) * 6, (0,) * 10, RING], [
        (), (1,) * 11, (1,) * 40, [1], [1, 2, 3], -1, 0, 5, MOST, "1", None, {}, (-1,), (MOST + 1,), (1, 2, -1), (True,),
        (1, False), (None,), ("1",), ((1,),), ([1],), (1, Hostile()), Hostile(), Yes(), (Yes(),), nested(99), {1: 1},
        (1,) * 9 + (None,), object(), 10 ** 79, (10 ** 79,)]),
    "strengths": ([2, MOST, (2,), (MOST,) * 10, (2, 3, 4)], [
        0, 1, -1, -2, MOST + 1, 10 ** 79, True, False, None, "2", (), (2,) * 11, (1,), (0,), (2, 1), (MOST + 1,), [2],
        [2, 2], (True,), (None,), ("2",), ((2,),), ([2],), {}, Hostile(), (2, Hostile()), Yes(), (Yes(),), nested(99)]),
    "number": ([0, 1, MOST, 10 ** 79], [-1, -MOST, *NO_INTEGERS]),
}
FORMS = {
    "strong": ("name", "bridges", "name", "name", "number"),
    "needed": ("name", "bridges", "strengths", "number"),
    "ends": ("name", "bridges", "strengths", "name", "number"),
    "ways": ("name", "bridges", "number"),
}


class Stop(Exception):
    """What a block is left by."""


def seen(book):
    """All that a book tells of itself."""
    return (book.names, [book[name] for name in book.names], book.wishes, book.changes, len(book))


def holds(sea, wish):
    """Whether a wish holds in a sea, by the words of point 16."""
    word, bridges, number = wish[0], wish[2], wish[-1]
    if len(bridges) != len(sea.pairs):
        return False
    if word in ("needed", "ends") and isinstance(wish[3], tuple) and len(wish[3]) != len(sea.pairs):
        return False
    if word == "strong":
        one, other = wish[3:5]
        return one != other and {one, other} <= set(sea.islands) and (
            reference.strength_of(sea, bridges, one, other) >= number)
    if word == "needed":
        return -(-reference.greatest_sum(sea, bridges, wish[3]) // 2) <= number
    if word == "ends":
        return wish[4] in sea.islands and end_range(sea, bridges, wish[3], wish[4])[1] <= number
    return min(reference.strengths(sea, bridges)) >= 2 * number


def just_right(name, sea, bridges, chance):
    """Wishes for these bridges that just hold, each with one that does not, since its number is one more or fewer."""
    one, other = chance.sample(sea.islands, 2)
    wishes = chance.choice(wishes_for(sea, bridges, chance))
    strong, ways = between(sea, bridges, one, other), most_ways(sea, bridges)
    least, most = needed(sea, bridges, wishes), end_range(sea, bridges, wishes, one)[1]
    return [
        (("strong", name, bridges, one, other, strong), ("strong", name, bridges, one, other, strong + 1)),
        (("needed", name, bridges, wishes, least), ("needed", name, bridges, wishes, least - 1)),
        (("ends", name, bridges, wishes, one, most), ("ends", name, bridges, wishes, one, most - 1)),
        (("ways", name, bridges, ways), ("ways", name, bridges, ways + 1)),
    ]


class ExamplesTest(unittest.TestCase):
    def test_examples_of_the_document(self):
        book = Book()
        book["bay"] = BAY
        self.assertIsNone(book.wish(("strong", "bay", RING, "ash", "oak", 4)))
        self.assertEqual([book.names, book.changes, len(book), book["bay"] == BAY], [("bay",), 2, 1, True])
        with self.assertRaises(errors.Broken) as held:
            book.wish(("ways", "bay", STAR, 2))
        self.assertEqual(held.exception.index, 1)


class BookCase(unittest.TestCase):
    def put(self, book, name, sea):
        book[name] = sea

    def assert_error(self, book, wrong, told, call, *arguments):
        """A call raises this error, and then nothing has changed."""
        before = seen(book)
        with self.assertRaises(getattr(errors, wrong)) as held:
            call(*arguments)
        error = held.exception
        self.assertIs(error.__class__, getattr(errors, wrong))
        if wrong == "Broken":
            self.assertEqual((error.index, error.index.__class__), (told, int))
        elif wrong != "NothingToUndo":
            self.assertIs(error.given, told)
        self.assertEqual(seen(book), before)

    def three(self):
        """A book with two seas and a few wishes."""
        book = Book()
        book["bay"] = BAY
        book["b"] = STRAIT
        for wish in [("strong", "bay", RING, "ash", "oak", 4), ("needed", "b", (3,), 5, 2), ("ways", "bay", STAR, 1)]:
            book.wish(wish)
        return book


class SeasTest(BookCase):
    def test_an_empty_book(self):
        book = Book()
        self.assertEqual([book.names, book.wishes, book.changes, len(book)], [(), (), 0, 0])
        self.assertEqual([book.names.__class__, book.wishes.__class__], [tuple, tuple])
        self.assertRaises(TypeError, Book, 1)

    def test_seas_under_names(self):
        book, names = Book(), ["oak", "a", "z9", "b", "islands", "abcdefgh", "a1"]
        for many, (name, sea) in enumerate(zip(names, SEAS), 1):
            book[name] = sea
            self.assertIs(book[name], sea)
            self.assertEqual(book.names, tuple(sorted(names[:many])))
            self.assertEqual([len(book), book.changes], [many, many])
        for name, sea in zip(names, SEAS):
            self.assertIs(book["".join(list(name))], sea)

    def test_in_the_place_of_what_is_there(self):
        book = Book()
        for many, sea in enumerate([BAY, STRAIT, STRAIT, BAY, Sea.read(str(BAY))], 1):
            book["bay"] = sea
            self.assertIs(book["bay"], sea)
            self.assertEqual([book.names, len(book), book.changes], [("bay",), 1, many])
        book.undo()
        book.undo()
        self.assertIs(book["bay"], STRAIT)

    def test_names_are_in_the_book_and_nothing_else(self):
        book = self.three()
        self.assertEqual(["bay" in book, "b" in book, "".join(["b", "ay"]) in book], [True, True, True])
        for value in [*ANYTHING, *NO_NAMES, "ba", "bays", "BAY", "ash", BAY, STRAIT, ("bay",), ["bay"]]:
            self.assertIs(value in book, False)
            self.assertIs(value not in book, True)
        self.assertIs("bay" in Book(), False)

    def test_unknown_names(self):
        book = self.three()
        for value in [*ANYTHING, *NO_NAMES, "ba", "BAY", "ash", BAY, ("bay",), 0, -1, slice(0, 1)]:
            self.assert_error(book, "UnknownName", value, lambda: book[value])

    def test_no_names(self):
        book = self.three()
        for name in NO_NAMES:
            for sea in (BAY, STRAIT, None, "bay"):
                self.assert_error(book, "InvalidName", name, self.put, book, name, sea)

    def test_no_seas(self):
        book = self.three()
        for sea in [*ANYTHING, str(BAY), BAY.islands, Sea, [BAY], (BAY,), book]:
            for name in ("bay", "b", "new"):
                self.assert_error(book, "NotASea", sea, self.put, book, name, sea)

    def test_methods_stand_in_the_class_itself(self):
        for name in ("names", "wishes", "changes"):
            self.assertIsInstance(vars(Book)[name], property)
            self.assertRaises(AttributeError, setattr, self.three(), name, ())
        for name in ("__getitem__", "__setitem__", "__contains__", "__len__", "wish", "lift", "undo", "trial", "tried"):
            self.assertIn(name, vars(Book))


class WishTest(BookCase):
    def test_wishes_are_kept_as_they_were_passed(self):
        book, wishes = Book(), []
        book["s"] = BAY
        for wish in [
                ("strong", "s", RING, "ash", "oak", 0), ("needed", "s", STAR, 4, 10 ** 79), ("ways", "s", STAR, 1),
                ("ends", "s", STAR, (4,) * 6, "elm", 2), ("ways", "s", STAR, 1)]:
            self.assertIsNone(book.wish(wish=wish) if len(wishes) == 2 else book.wish(wish))
            wishes.append(wish)
            self.assertEqual([book.wishes, book.changes], [tuple(wishes), 1 + len(wishes)])
            self.assertTrue(all(one is other for one, other in zip(book.wishes, wishes)))

    def test_wishes_that_just_hold(self):
        chance, often = random.Random(1), 0
        for sea, bridges in all_bridges(1, 1):
            book = Book()
            book["s"] = sea
            for right, wrong in just_right("s", sea, bridges, chance):
                self.assertTrue(holds(sea, right))
                book.wish(right)
                many = len(book.wishes)
                if wrong[-1] >= 0:
                    self.assertFalse(holds(sea, wrong))
                    self.assert_error(book, "Broken", many, book.wish, wrong)
                    often += 1
                else:
                    self.assert_error(book, "InvalidWish", wrong, book.wish, wrong)
        self.assertGreater(often, 100)

    def test_wishes_that_do_not_hold_whatever_the_number(self):
        book = Book()
        book["s"] = BAY
        for wish in [
                ("strong", "s", RING[:5], "ash", "oak", 0), ("strong", "s", (2,) * 10, "ash", "oak", 0),
                ("strong", "s", (2,), "ash", "oak", 0), ("strong", "s", RING, "ash", "ash", 0),
                ("strong", "s", RING, "ash", "fir", 0), ("strong", "s", RING, "fir", "oak", 0),
                ("strong", "s", RING, "s", "oak", 0), ("needed", "s", RING[:5], 2, 9), ("needed", "s", (9,) * 10, 2, 9),
                ("needed", "s", (9,) * 6, (2,) * 5, 9), ("needed", "s", (9,) * 6, (2,) * 7, 9),
                ("needed", "s", (9,) * 6, (2,), 9), ("ends", "s", (9,) * 5, 2, "ash", 9),
                ("ends", "s", (9,) * 6, (2,) * 10, "ash", 9), ("ends", "s", (9,) * 6, 2, "fir", 9),
                ("ways", "s", (9,) * 3, 0), ("ways", "s", (9,) * 10, 0)]:
            self.assert_error(book, "Broken", 0, book.wish, wish)
            book.wish(("ways", "s", (9,) * 6, 1))
            self.assert_error(book, "Broken", 1, book.wish, wish)
            book.lift(0)

    def test_no_wishes(self):
        book = self.three()
        values = [*ANYTHING, *[form for form in FORMS], ["ways", "bay", STAR, 1], "ways bay", {"ways": 1}, ("ways",)]
        for value in values:
            self.assert_error(book, "InvalidWish", value, book.wish, value)
            self.assert_error(book, "InvalidWish", value, lambda: book.wish(wish=value))

    def test_each_part_of_a_wish(self):
        book, often = self.three(), 0
        for word, kinds in FORMS.items():
            right = [KINDS[kind][0][0] for kind in kinds]
            for place, kind in enumerate(kinds):
                for bad in KINDS[kind][1]:
                    wish = (word, *right[:place], bad, *right[place + 1:])
                    self.assert_error(book, "InvalidWish", wish, book.wish, wish)
                    often += 1
                for good in KINDS[kind][0]:
                    wish = (word, *right[:place], good, *right[place + 1:])
                    # It is a wish then, though for a sea that the book does not have.
                    self.assert_error(book, "UnknownName", wish[1], book.wish, wish)
            for wish in [(word, *right[:-1]), (word, *right, 0), (word, *right, "a"), (word,), (word, *right[1:])]:
                self.assert_error(book, "InvalidWish", wish, book.wish, wish)
            for bad in [*ANYTHING, word.upper(), word + " ", "", "strongs", [word], (word,), word.encode()]:
                wish = (bad, *right)
                self.assert_error(book, "InvalidWish", wish, book.wish, wish)
            listed = [word, *right]
            self.assert_error(book, "InvalidWish", listed, book.wish, listed)
        self.assertGreater(often, 300)

    def test_the_form_of_another_word(self):
        book = self.three()
        rights = {word: [KINDS[kind][0][-1] for kind in kinds] for word, kinds in FORMS.items()}
        for one, other in itertools.permutations(FORMS, 2):
            wish = (one, *rights[other])
            self.assert_error(book, "InvalidWish", wish, book.wish, wish)

    def test_seas_that_the_book_does_not_have(self):
        book = self.three()
        for name in ("ba", "bays", "ash", "islands"):
            for wish in [
                    ("strong", name, RING, "ash", "oak", 4), ("strong", name, RING, "ash", "ash", 4),
                    ("needed", name, RING, 4, 0), ("ends", name, (1,), 4, "ash", 0), ("ways", name, STAR, 10 ** 79)]:
                self.assert_error(book, "UnknownName", wish[1], book.wish, wish)

    def test_the_wishes_of_other_seas_stay_apart(self):
        book = self.three()
        book.wish(("strong", "b", (3,), "b", "a", 3))
        self.assert_error(book, "Broken", 4, book.wish, ("strong", "b", (3,), "ash", "oak", 3))
        self.assert_error(book, "Broken", 4, book.wish, ("strong", "bay", RING, "a", "b", 3))


class BrokenTest(BookCase):
    def test_the_first_wish_that_does_not_hold(self):
        book = self.three()
        self.assert_error(book, "Broken", 0, self.put, book, "bay", STRAIT)
        self.assert_error(book, "Broken", 1, self.put, book, "b", BAY)
        book.lift(0)
        self.assert_error(book, "Broken", 1, self.put, book, "bay", STRAIT)
        book.lift(1)
        book["bay"] = STRAIT
        self.assert_error(book, "Broken", 0, self.put, book, "b", BAY)
        book["b"] = Sea(("x", "y"))
        self.assertEqual([book["bay"], book["b"].islands], [STRAIT, ("x", "y")])

    def test_seas_in_the_place_of_others_for_which_the_wishes_hold(self):
        book = self.three()
        book["bay"] = Sea(("ash", "elm", "oak", "fir"))
        book["bay"] = Sea(("oak", "yew", "elm", "ash"))
        self.assert_error(book, "Broken", 0, self.put, book, "bay", Sea(("ash", "elm", "fir", "yew")))
        # The ring leads another way there, but it is as strong; with these the strength of two islands changes.
        book.wish(("strong", "bay", (9, 0, 0, 0, 0, 1), "oak", "yew", 9))
        self.assert_error(book, "Broken", 3, self.put, book, "bay", Sea(("oak", "elm", "yew", "ash")))

    def test_against_the_words_of_the_document(self):
        chance, found = random.Random(2), set()
        seas = [sea for sea in SEAS if len(sea) < 5] + [Sea(("oak", "elm", "yew", "ash")), Sea(("c", "b", "a"))]
        for _ in range(40):
            book, names = Book(), ["s", "t"]
            for name in names:
                book[name] = chance.choice(seas)
            for _ in range(12):
                name = chance.choice(names)
                if chance.random() < 0.4:
                    sea = chance.choice(seas)
                    told = {**{other: book[other] for other in names}, name: sea}
                    wishes, call = book.wishes, lambda: self.put(book, name, sea)
                else:
                    sea = chance.choice([book[name], book[name], chance.choice(seas)])
                    bridges = tuple(chance.randint(0, 3) for _ in sea.pairs)
                    right, wrong = chance.choice(just_right(name, sea, bridges, chance))
                    wish = wrong if wrong[-1] >= 0 and chance.random() < 0.3 else right
                    told = {other: book[other] for other in names}
                    wishes, call = (*book.wishes, wish), lambda: book.wish(wish)
                broken = [index for index, one in enumerate(wishes) if not holds(told[one[1]], one)]
                if broken:
                    self.assert_error(book, "Broken", broken[0], call)
                    found.add(broken[0] < len(book.wishes))
                else:
                    call()
                    found.add(None)
                    self.assertEqual(book.wishes, wishes)
                    self.assertEqual({other: book[other].islands for other in names},
                                     {other: told[other].islands for other in names})
                self.assertTrue(all(holds(book[one[1]], one) for one in book.wishes))
        self.assertEqual(found, {True, False, None})


class ChangesTest(BookCase):
    def test_lift(self):
        book = self.three()
        first, second, third = book.wishes
        self.assertIsNone(book.lift(1))
        self.assertEqual([book.wishes, book.changes], [(first, third), 6])
        self.assertIsNone(book.lift(index=1))
        self.assertEqual(book.wishes, (first,))
        book.lift(0)
        self.assertEqual([book.wishes, book.changes], [(), 8])
        for wishes in [(first,), (first, third), (first, second, third)]:
            self.assertIsNone(book.undo())
            self.assertEqual(book.wishes, wishes)

    def test_the_seas_stay_when_wishes_come_and_go(self):
        book, sea = self.three(), Sea(("x", "y"))
        book["new"] = STRAIT
        book.lift(2)
        self.assertEqual(book.names, ("b", "bay", "new"))
        book["b"] = sea
        book.lift(0)
        self.assertIs(book["b"], sea)
        book["new"] = sea
        book.wish(("ways", "b", (4,), 2))
        self.assertEqual([book["new"], book["b"], book["bay"]], [sea, sea, BAY])

    def test_one_of_two_equal_wishes(self):
        book, wishes = self.three(), [("ways", "b", (number,), 0) for number in (7, 8, 7)]
        for wish in wishes:
            book.wish(wish)
        book.lift(3)
        self.assertEqual(book.wishes[3:], (wishes[1], wishes[2]))
        self.assertIs(book.wishes[4], wishes[2])

    def test_no_index(self):
        book = self.three()
        for value in NO_INTEGERS:
            self.assert_error(book, "InvalidIndex", value, book.lift, value)
        for value in [3, 4, -1, -2, -3, MOST, -MOST, 10 ** 79]:
            self.assert_error(book, "InvalidIndex", value, book.lift, value)
            self.assert_error(book, "InvalidIndex", value, lambda: book.lift(index=value))
        for value in (0, -1, 1, None):
            self.assert_error(Book(), "InvalidIndex", value, Book().lift, value)

    def test_undo(self):
        book = Book()
        self.assert_error(book, "NothingToUndo", None, book.undo)
        told, wish = [seen(book)], ("ways", "bay", STAR, 1)
        for change in [
                lambda: self.put(book, "bay", BAY), lambda: book.wish(wish), lambda: self.put(book, "b", STRAIT),
                lambda: self.put(book, "bay", BAY), lambda: book.wish(wish), lambda: book.lift(0),
                lambda: self.put(book, "bay", Sea(("d", "c", "b", "a"))), lambda: book.lift(0),
                lambda: self.put(book, "bay", STRAIT)]:
            self.assertIsNone(change())
            told.append(seen(book))
            self.assertEqual(book.changes, len(told) - 1)
        for before in reversed(told[:-1]):
            self.assertIsNone(book.undo())
            self.assertEqual(seen(book), before)
        self.assert_error(book, "NothingToUndo", None, book.undo)
        self.assertEqual(["bay" in book, len(book)], [False, 0])

    def test_changes_in_any_order(self):
        chance = random.Random(3)
        for _ in range(30):
            book, told = Book(), []
            for _ in range(30):
                before, kind = seen(book), chance.choice(["put", "wish", "lift", "undo"])
                try:
                    if kind == "put":
                        book[chance.choice(["s", "t", "u"])] = chance.choice([BAY, STRAIT, SEAS[2]])
                    elif kind == "wish":
                        bridges = chance.choice([(chance.randint(0, 5),), RING, STAR])
                        book.wish(("ways", chance.choice(["s", "t"]), bridges, chance.randint(0, 2)))
                    elif kind == "lift":
                        book.lift(chance.randint(0, 3))
                    else:
                        book.undo()
                        self.assertEqual(seen(book), told.pop())
                        continue
                except (errors.WrongValue, errors.WrongName, errors.NoAnswer):
                    self.assertEqual(seen(book), before)
                    continue
                told.append(before)
                self.assertEqual(book.changes, len(told))


class TrialTest(BookCase):
    def use(self, book):
        """Some changes, among them some that were there before and are taken back."""
        book["new"] = STRAIT
        for _ in range(3):
            book.undo()
        book["b"] = Sea(("x", "y"))
        book.wish(("ways", "b", (8,), 4))

    def test_a_block_that_ends_of_itself(self):
        book, other = self.three(), self.three()
        with book.trial() as held:
            self.assertIs(held, book)
            self.assertEqual(seen(book), seen(other))
            self.use(book)
        self.use(other)
        self.assertEqual(seen(book), seen(other))
        for _ in range(5):
            book.undo()
            other.undo()
            self.assertEqual(seen(book), seen(other))

    def test_a_block_that_ends_with_an_exception(self):
        for kind in (Stop, KeyError, errors.Broken, errors.NothingToUndo, KeyboardInterrupt, GeneratorExit, SystemExit):
            book = self.three()
            before, error = seen(book), kind(*([0] if kind is errors.Broken else []))
            with self.assertRaises(kind) as held:
                with book.trial():
                    self.use(book)
                    raise error
            self.assertIs(held.exception, error)
            self.assertEqual(seen(book), before)
            # The changes that can be taken back are those of before, too.
            book.undo()
            self.assertEqual(len(book.wishes), 2)

    def test_an_error_of_the_book_itself(self):
        book = self.three()
        before = seen(book)
        with self.assertRaises(errors.Broken):
            with book.trial():
                self.use(book)
                book["bay"] = STRAIT
        self.assertEqual(seen(book), before)

    def test_a_block_that_is_left_early(self):
        book = self.three()

        def left():
            with book.trial():
                book.lift(0)
                return book.changes

        self.assertEqual([left(), len(book.wishes)], [6, 2])
        for _ in range(2):
            with book.trial():
                book.lift(0)
                continue
        self.assertEqual([book.wishes, book.changes], [(), 8])

    def test_trials_within_trials(self):
        book = self.three()
        before = seen(book)
        with self.assertRaises(Stop):
            with book.trial():
                book.lift(0)
                changed = seen(book)
                with self.assertRaises(KeyError):
                    with book.trial():
                        self.use(book)
                        raise KeyError
                self.assertEqual(seen(book), changed)
                with book.trial():
                    book.lift(0)
                self.assertEqual(len(book.wishes), 1)
                raise Stop
        self.assertEqual(seen(book), before)

    def test_one_trial_used_again_and_within_itself(self):
        book = self.three()
        before, trial = seen(book), book.trial()
        with self.assertRaises(Stop):
            with trial:
                book.lift(0)
                changed = seen(book)
                with self.assertRaises(KeyError):
                    with trial:
                        book.lift(0)
                        with trial as held:
                            held.lift(0)
                        self.assertEqual(book.wishes, ())
                        raise KeyError
                self.assertEqual(seen(book), changed)
                raise Stop
        self.assertEqual(seen(book), before)
        with trial:
            book.lift(0)
        self.assertEqual(len(book.wishes), 2)

    def test_a_call_alone_changes_nothing(self):
        book = self.three()
        before = seen(book)
        trial = book.trial()
        self.assertTrue(trial)
        self.assertEqual(seen(book), before)
        book.lift(0)
        with self.assertRaises(Stop):
            with trial:
                book.undo()
                raise Stop
        self.assertEqual(len(book.wishes), 2)

    def test_tried(self):
        book, result = self.three(), nested(9)

        def action(held):
            self.assertIs(held, book)
            held.lift(0)
            return result

        self.assertIs(book.tried(action), result)
        self.assertIs(book.tried(action=action), result)
        self.assertEqual([len(book.wishes), book.changes], [1, 7])
        self.assertIsNone(book.tried(lambda held: held.undo()))
        self.assertEqual(book.tried(lambda held: held.tried(len)), 2)

    def test_tried_with_an_exception(self):
        book = self.three()
        before = seen(book)

        def action(held):
            self.use(held)
            raise Stop

        self.assertRaises(Stop, book.tried, action)
        self.assertEqual(seen(book), before)
        with self.assertRaises(errors.Broken) as held:
            book.tried(lambda held: held.lift(0) or self.put(held, "bay", STRAIT))
        self.assertEqual([held.exception.index, seen(book)], [1, before])
        with self.assertRaises(Stop):
            book.tried(lambda held: held.tried(lambda within: within.lift(0)) or held.tried(action))
        self.assertEqual(seen(book), before)


class EqualityTest(BookCase):
    def test_equal_to_itself_alone(self):
        book, other = self.three(), self.three()
        self.assertTrue(book == book and not book != book)
        self.assertTrue(book != other and not book == other)
        self.assertTrue(Book() != Book())
        for value in [*ANYTHING, Hostile(), Yes(), BAY, book.names, book.wishes, book.trial()]:
            self.assertIs(book == value, False)
            self.assertIs(book != value, True)

    def test_every_book_is_true(self):
        self.assertIs(bool(Book()), True)
        self.assertIs(bool(self.three()), True)


if __name__ == "__main__":
    unittest.main()

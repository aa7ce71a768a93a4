"""The deeds of a book and their refusals, as [13] to [15] and the interface's nightglass/book.py tell them."""

import copy
import random
import unittest

from ledger import Heaven, Ledger
from oracle import HUNDRED, OTHER_HUNDRED, STILL
from shown import do, expected_outcome, outcome, shown

from nightglass.book import Book
from nightglass.errors import (
    BadMotion, BadName, BadPlate, Crossed, Full, NoPlate, NoTie, SelfTie, Taken, Unlike,
)

LETTERS = "abcdefghijklmnopqrstuvwxyz"
BAD_NAMES = ["", "A", "Vega", "a1", "a b", " a", "a-", "abcdefghi", "z" * 4000, "{", "`"]
# A width, a height, a limit and stars that are no plate's.
BAD_GLASSES = [
    (0, 2, 3, []), (9, 2, 3, []), (-1, 2, 3, []), (2, 0, 3, []), (2, 9, 3, []), (2, 2, 0, []), (2, 2, 10, []),
    (HUNDRED, 2, 3, []), (2, -HUNDRED, 3, []), (2, 2, HUNDRED, []), (2, 2, 3, [(2, 0, 5)]), (2, 2, 3, [(0, 2, 5)]),
    (2, 2, 3, [(-1, 0, 5)]), (2, 2, 3, [(0, -1, 5)]), (2, 2, 3, [(0, 0, 2)]), (2, 2, 3, [(0, 0, 10)]),
    (2, 2, 3, [(0, 0, 5), (0, 0, 5)]), (2, 2, 3, [(0, 0, 5), (1, 1, 4), (0, 0, 6)]), (2, 2, 3, [(HUNDRED, 0, 5)]),
    (3, 3, 1, [(x, y, 5) for x in range(3) for y in range(3)]),
]
BAD_TURNS = [-1, 8, 9, -8, HUNDRED, -HUNDRED]


def blank_glasses(book, many, limit=9):
    """Puts so many glasses without stars, called a, b, c .., that agree however they lie."""
    for letter in LETTERS[:many]:
        book.put(letter, 1, 1, limit, [])


def full_of_ties():
    """A book of three blank glasses and a star apart from them, with forty ties between a and b."""
    book = Book()
    blank_glasses(book, 3)
    book.put("s", 1, 1, 1, [(0, 0, 9)])
    book.put("t", 1, 1, 1, [(0, 0, 8)])
    for times in range(40):
        book.tie("a", "b", (1, 2, 3))
    return book


class BookCase(unittest.TestCase):
    def assert_refused(self, refusal, book, deed, **fields):
        """The deed is refused so, and the book shows what it showed."""
        before = shown(book)
        with self.assertRaises(refusal, msg=deed) as caught:
            do(book, deed)
        self.assertEqual(caught.exception.__class__, refusal)
        for name, value in fields.items():
            self.assertEqual(getattr(caught.exception, name), value)
            self.assertIs(type(getattr(caught.exception, name)), type(value))
        self.assertEqual(shown(book), before)


class PutTest(BookCase):
    def test_a_book_is_without_plates_at_first(self):
        book = Book()
        self.assertEqual((book.names(), book.ties(), book.skies(), book.log()), ([], [], [], []))

    def test_put(self):
        book = Book()
        self.assertIsNone(book.put("vega", 2, 3, 4, [(1, 2, 9), (0, 0, 4)]))
        self.assertIsNone(book.put("a", 8, 8, 1, []))
        self.assertEqual(book.names(), ["a", "vega"])
        self.assertEqual(book.window("vega"), (2, 3, 4))
        self.assertEqual(book.window("a"), (8, 8, 1))
        self.assertEqual(book.stars_of("vega"), [(0, 0, 4), (1, 2, 9)])
        self.assertEqual(book.stars_of("a"), [])
        self.assertEqual(book.skies(), [["a"], ["vega"]])

    def test_kinds(self):
        book = Book()
        book.put("vega", 2, 3, 4, [(1, 2, 9), (0, 0, 4)])
        self.assertIs(type(book.names()), list)
        self.assertIs(type(book.window("vega")), tuple)
        self.assertIs(type(book.stars_of("vega")), list)
        self.assertEqual([type(star) for star in book.stars_of("vega")], [tuple, tuple])

    def test_bad_name(self):
        book = Book()
        book.put("vega", 2, 2, 3, [(0, 0, 5)])
        for name in BAD_NAMES:
            self.assert_refused(BadName, book, ("put", name, 2, 2, 3, []))

    def test_bad_plate(self):
        book = Book()
        book.put("vega", 2, 2, 3, [(0, 0, 5)])
        for glass in BAD_GLASSES:
            self.assert_refused(BadPlate, book, ("put", "lyra", *glass))

    def test_bounds_that_are_let(self):
        book = Book()
        eight = [(x, y, 9) for x in range(4) for y in range(2)]
        book.put("abcdefgh", 8, 8, 9, eight)
        book.put("z", 1, 1, 1, [(0, 0, 1)])
        self.assertEqual(book.stars_of("abcdefgh"), eight)

    def test_taken(self):
        book = Book()
        book.put("vega", 2, 2, 3, [(0, 0, 5)])
        self.assert_refused(Taken, book, ("put", "vega", 2, 2, 3, [(0, 0, 5)]))
        self.assert_refused(Taken, book, ("put", "vega", 1, 1, 1, []))

    def test_twelve_and_a_thirteenth(self):
        book = Book()
        blank_glasses(book, 12)
        self.assertEqual(len(book.names()), 12)
        self.assert_refused(Full, book, ("put", "m", 1, 1, 1, []))

    def test_again_behind_one_taken_away(self):
        book = Book()
        blank_glasses(book, 12)
        book.drop("c")
        book.put("m", 1, 1, 1, [])
        self.assert_refused(Full, book, ("put", "c", 1, 1, 1, []))
        book.undo()
        book.put("c", 1, 1, 1, [])
        self.assertEqual(book.names(), list("abcdefghijkl"))
        self.assert_refused(Full, book, ("put", "m", 1, 1, 1, []))

    def test_the_first_that_is_due(self):
        book = Book()
        blank_glasses(book, 12)
        self.assert_refused(BadName, book, ("put", "A", 0, 9, 11, [(0, 0, 0)]))
        self.assert_refused(BadName, book, ("put", "", 1, 1, 1, []))
        self.assert_refused(BadPlate, book, ("put", "a", 0, 1, 1, []))
        self.assert_refused(BadPlate, book, ("put", "m", 1, 1, 0, []))
        self.assert_refused(Taken, book, ("put", "a", 1, 1, 1, []))
        self.assert_refused(Full, book, ("put", "m", 1, 1, 1, []))
        book.drop("l")
        self.assert_refused(BadPlate, book, ("put", "a", 0, 1, 1, []))

    def test_stars_handed_in_are_neither_changed_nor_kept(self):
        book = Book()
        stars = [(1, 1, 9), (0, 0, 5)]
        book.put("vega", 2, 2, 3, stars)
        self.assertEqual(stars, [(1, 1, 9), (0, 0, 5)])
        before = shown(book)
        stars.append((0, 1, 7))
        stars[0] = (1, 0, 3)
        self.assertEqual(shown(book), before)
        for refused in ([(1, 1, 9), (0, 0, 1)], [(1, 1, 9), (1, 1, 9)]):
            held = copy.deepcopy(refused)
            self.assert_refused(BadPlate, book, ("put", "lyra", 2, 2, 3, refused))
            self.assertEqual(refused, held)


class DropTest(BookCase):
    def test_a_plate_goes(self):
        book = Book()
        blank_glasses(book, 2)
        self.assertIsNone(book.drop("a"))
        self.assertEqual(book.names(), ["b"])
        self.assert_refused(NoPlate, book, ("drop", "a"))

    def test_no_plate(self):
        book = Book()
        for name in ("a", "", "A", "abcdefghi", "1"):
            self.assert_refused(NoPlate, book, ("drop", name))
        blank_glasses(book, 2)
        for name in ("c", "", "ab", "A"):
            self.assert_refused(NoPlate, book, ("drop", name))

    def test_each_tie_at_the_plate_goes(self):
        book = Book()
        blank_glasses(book, 4)
        book.tie("a", "b", STILL)
        book.tie("b", "c", STILL)
        book.tie("c", "d", (1, 0, 0))
        book.tie("d", "c", (3, 0, 0))
        book.tie("d", "a", (3, 0, 0))
        book.drop("c")
        self.assertEqual(book.ties(), [(1, "a", "b", STILL), (5, "d", "a", (3, 0, 0))])
        book.drop("a")
        self.assertEqual(book.ties(), [])
        self.assertEqual(book.skies(), [["b"], ["d"]])

    def test_a_plate_put_anew_is_without_ties_and_may_be_another(self):
        book = Book()
        blank_glasses(book, 2)
        book.tie("a", "b", STILL)
        book.drop("b")
        book.put("b", 2, 2, 1, [(0, 0, 9)])
        self.assertEqual(book.ties(), [])
        self.assertIsNone(book.lies("a", "b"))
        self.assertEqual(book.window("b"), (2, 2, 1))
        # As no tie stands, the two may be tied by any motion; a blank denies only what it can see.
        self.assert_refused(Unlike, book, ("tie", "a", "b", STILL), here="a", there="b", place=(0, 0))
        self.assertEqual(book.tie("a", "b", (0, 5, 5)), 2)


class TieTest(BookCase):
    def test_numbers_begin_at_one(self):
        book = Book()
        blank_glasses(book, 3)
        self.assertEqual(book.tie("a", "b", (1, 2, 3)), 1)
        self.assertEqual(book.tie("c", "b", (7, -2, HUNDRED)), 2)
        self.assertEqual(book.ties(), [(1, "a", "b", (1, 2, 3)), (2, "c", "b", (7, -2, HUNDRED))])

    def test_numbers_never_come_again_behind_untie_or_drop(self):
        book = Book()
        blank_glasses(book, 3)
        book.tie("a", "b", STILL)
        book.tie("b", "c", STILL)
        book.untie(2)
        self.assertEqual(book.tie("b", "c", STILL), 3)
        book.drop("c")
        self.assertEqual(book.ties(), [(1, "a", "b", STILL)])
        book.put("c", 1, 1, 9, [])
        self.assertEqual(book.tie("b", "c", STILL), 4)
        book.untie(1)
        book.untie(4)
        self.assertEqual(book.tie("c", "a", STILL), 5)
        for name in "abc":
            book.drop(name)
        blank_glasses(book, 2)
        self.assertEqual(book.tie("a", "b", STILL), 6)

    def test_a_refused_tie_takes_no_number(self):
        book = Book()
        blank_glasses(book, 2)
        book.put("s", 1, 1, 1, [(0, 0, 9)])
        for deed in (("tie", "a", "x", STILL), ("tie", "a", "a", STILL), ("tie", "a", "b", (8, 0, 0))):
            with self.assertRaises((NoPlate, SelfTie, BadMotion)):
                do(book, deed)
        # The limit of a is 9, so a star of 9 it would see.
        self.assert_refused(Unlike, book, ("tie", "a", "s", STILL))
        self.assertEqual(book.tie("a", "b", STILL), 1)
        self.assert_refused(Crossed, book, ("tie", "a", "b", (1, 0, 0)))
        self.assertEqual(book.tie("a", "b", STILL), 2)

    def test_a_tie_that_confirms(self):
        book = Book()
        blank_glasses(book, 3)
        book.tie("a", "b", (1, 2, 3))
        self.assertEqual(book.tie("a", "b", (1, 2, 3)), 2)
        # (1, 2, 3) leads back by (3, -3, 2).
        self.assertEqual(book.tie("b", "a", (3, -3, 2)), 3)
        book.tie("b", "c", (4, 5, 0))
        # c's (x, y) is b's (-x + 5, y), and so a's (-y + 2, -x + 8).
        self.assertEqual(book.tie("a", "c", (5, 2, 8)), 5)
        self.assertEqual(book.lies("a", "c"), (5, 2, 8))
        self.assertEqual(len(book.ties()), 5)
        # One that confirms goes on to hold where the others go.
        book.untie(4)
        self.assertEqual(book.lies("b", "c"), (4, 5, 0))

    def test_forty_and_a_forty_first(self):
        book = full_of_ties()
        self.assertEqual([tie[0] for tie in book.ties()], list(range(1, 41)))
        for deed in (("tie", "a", "b", (1, 2, 3)), ("tie", "a", "c", STILL), ("tie", "b", "a", (3, -3, 2))):
            self.assert_refused(Full, book, deed)

    def test_again_behind_one_taken_away(self):
        book = full_of_ties()
        book.untie(17)
        self.assertEqual(book.tie("b", "c", STILL), 41)
        self.assert_refused(Full, book, ("tie", "b", "c", STILL))
        book.drop("c")
        self.assertEqual(book.tie("a", "b", (1, 2, 3)), 42)
        self.assert_refused(Full, book, ("tie", "a", "b", (1, 2, 3)))
        book.undo()
        self.assertEqual(book.tie("b", "a", (3, -3, 2)), 42)
        self.assert_refused(Full, book, ("tie", "a", "b", (1, 2, 3)))

    def test_no_plate(self):
        book = Book()
        blank_glasses(book, 2)
        for one, other in (("a", "x"), ("x", "a"), ("x", "y"), ("x", "x"), ("", "a"), ("a", "A")):
            self.assert_refused(NoPlate, book, ("tie", one, other, STILL))
            self.assert_refused(NoPlate, book, ("tie", one, other, (8, 0, 0)))

    def test_self_tie(self):
        book = Book()
        blank_glasses(book, 2)
        for motion in (STILL, (1, 2, 3), (8, 0, 0), (-1, 5, 5)):
            self.assert_refused(SelfTie, book, ("tie", "a", "a", motion))

    def test_bad_motion(self):
        book = Book()
        blank_glasses(book, 3)
        book.tie("a", "b", STILL)
        for turn in BAD_TURNS:
            self.assert_refused(BadMotion, book, ("tie", "a", "b", (turn, 0, 0)))
            self.assert_refused(BadMotion, book, ("tie", "b", "c", (turn, HUNDRED, -HUNDRED)))

    def test_all_turns_and_far_shifts_are_let(self):
        for turn in range(8):
            book = Book()
            blank_glasses(book, 2)
            motion = (turn, HUNDRED, -OTHER_HUNDRED)
            self.assertEqual(book.tie("a", "b", motion), 1)
            self.assertEqual(book.lies("a", "b"), motion)

    def test_the_first_that_is_due(self):
        book = full_of_ties()
        self.assert_refused(NoPlate, book, ("tie", "x", "x", (8, 0, 0)))
        self.assert_refused(NoPlate, book, ("tie", "a", "x", (8, 0, 0)))
        self.assert_refused(SelfTie, book, ("tie", "a", "a", (8, 0, 0)))
        self.assert_refused(SelfTie, book, ("tie", "a", "a", STILL))
        self.assert_refused(BadMotion, book, ("tie", "a", "b", (8, 0, 0)))
        self.assert_refused(BadMotion, book, ("tie", "s", "t", (8, 0, 0)))
        self.assert_refused(Full, book, ("tie", "a", "b", STILL))
        self.assert_refused(Full, book, ("tie", "s", "t", STILL))
        book.untie(1)
        self.assert_refused(BadMotion, book, ("tie", "a", "b", (8, 0, 0)))
        self.assert_refused(Crossed, book, ("tie", "a", "b", STILL), by=[2])
        self.assert_refused(Unlike, book, ("tie", "s", "t", STILL), here="s", there="t", place=(0, 0))

    def test_handed_in_motions_are_not_changed(self):
        book = Book()
        blank_glasses(book, 2)
        motion = (1, 2, 3)
        book.tie("a", "b", motion)
        self.assertEqual(motion, (1, 2, 3))


class CrossedTest(BookCase):
    def test_by_one_tie_and_from_both_ends(self):
        book = Book()
        blank_glasses(book, 2)
        book.tie("a", "b", (1, 2, 3))
        for motion in (STILL, (1, 2, 4), (1, 3, 3), (2, 2, 3), (1, HUNDRED, 3), (3, -3, 2)):
            self.assert_refused(Crossed, book, ("tie", "a", "b", motion), by=[1])
        for motion in (STILL, (1, 2, 3), (3, -3, 3)):
            self.assert_refused(Crossed, book, ("tie", "b", "a", motion), by=[1])

    def test_by_the_told_chain(self):
        book = Book()
        blank_glasses(book, 5)
        book.tie("a", "b", STILL)
        book.tie("b", "c", STILL)
        book.tie("c", "d", STILL)
        self.assert_refused(Crossed, book, ("tie", "a", "d", (1, 0, 0)), by=[1, 2, 3])
        self.assert_refused(Crossed, book, ("tie", "d", "a", (1, 0, 0)), by=[3, 2, 1])
        book.tie("d", "e", STILL)
        book.tie("e", "a", STILL)
        self.assert_refused(Crossed, book, ("tie", "a", "d", (1, 0, 0)), by=[5, 4])
        self.assert_refused(Crossed, book, ("tie", "a", "c", (1, 0, 0)), by=[1, 2])
        book.tie("e", "c", STILL)
        self.assert_refused(Crossed, book, ("tie", "a", "c", (1, 0, 0)), by=[1, 2])
        self.assert_refused(Crossed, book, ("tie", "c", "a", (1, 0, 0)), by=[2, 1])
        book.untie(1)
        self.assert_refused(Crossed, book, ("tie", "a", "b", (1, 0, 0)), by=[5, 6, 2])

    def test_two_chains_of_as_many_ties(self):
        book = Book()
        blank_glasses(book, 4)
        book.tie("a", "b", STILL)
        book.tie("a", "c", STILL)
        book.tie("c", "d", STILL)
        book.tie("b", "d", STILL)
        book.tie("b", "a", STILL)
        self.assert_refused(Crossed, book, ("tie", "a", "d", (1, 0, 0)), by=[1, 4])
        self.assert_refused(Crossed, book, ("tie", "d", "a", (1, 0, 0)), by=[3, 2])
        book.untie(1)
        self.assert_refused(Crossed, book, ("tie", "a", "d", (1, 0, 0)), by=[2, 3])

    def test_crossed_even_where_plates_would_deny_one_another(self):
        book = Book()
        book.put("s", 2, 1, 1, [(0, 0, 9)])
        book.put("t", 2, 1, 1, [(0, 0, 9)])
        book.tie("s", "t", STILL)
        self.assert_refused(Crossed, book, ("tie", "s", "t", (0, 1, 0)), by=[1])

    def test_the_told_chain_is_a_list_of_its_own(self):
        book = Book()
        blank_glasses(book, 2)
        book.tie("a", "b", STILL)
        with self.assertRaises(Crossed) as caught:
            book.tie("a", "b", (1, 0, 0))
        caught.exception.by.append(99)
        self.assert_refused(Crossed, book, ("tie", "a", "b", (1, 0, 0)), by=[1])


class UnlikeTest(BookCase):
    def test_here_is_of_ones_sky_and_there_of_others(self):
        book = Book()
        book.put("s", 2, 2, 1, [(1, 1, 9)])
        book.put("t", 2, 2, 1, [(0, 0, 8)])
        self.assert_refused(Unlike, book, ("tie", "s", "t", STILL), here="s", there="t", place=(0, 0))
        self.assert_refused(Unlike, book, ("tie", "t", "s", STILL), here="t", there="s", place=(0, 0))
        # t's (0, 0) comes to (1, 1) of s, and its (1, 1) to (0, 0).
        self.assert_refused(Unlike, book, ("tie", "s", "t", (2, 1, 1)), here="s", there="t", place=(1, 1))
        self.assert_refused(Unlike, book, ("tie", "t", "s", (2, 1, 1)), here="t", there="s", place=(0, 0))
        self.assertEqual(book.tie("s", "t", (0, 2, 0)), 1)

    def test_the_place_is_in_heres_own_numbers(self):
        book = Book()
        blank_glasses(book, 1)
        book.put("m", 3, 1, 1, [(2, 0, 9)])
        book.put("t", 1, 1, 1, [(0, 0, 5)])
        # m lies turned on a, far off: its (2, 0) is a's (100, 52), its (0, 0) a's (100, 50).
        book.tie("a", "m", (1, 100, 50))
        self.assert_refused(Unlike, book, ("tie", "a", "t", (0, 100, 52)), here="m", there="t", place=(2, 0))
        self.assert_refused(Unlike, book, ("tie", "a", "t", (0, 100, 50)), here="m", there="t", place=(0, 0))
        self.assert_refused(Unlike, book, ("tie", "t", "a", (0, -100, -52)), here="t", there="m", place=(0, 0))
        self.assertEqual(book.tie("a", "t", (0, 100, 53)), 2)

    def test_the_first_names_of_two_skies(self):
        book = Book()
        for name in ("c", "b", "a", "x", "z", "y"):
            bright = 9 if name in "abc" else 8
            book.put(name, 1, 1, 1, [(0, 0, bright)])
        for one, other in (("c", "b"), ("b", "a"), ("z", "y"), ("y", "x")):
            book.tie(one, other, STILL)
        self.assert_refused(Unlike, book, ("tie", "c", "z", STILL), here="a", there="x", place=(0, 0))
        self.assert_refused(Unlike, book, ("tie", "z", "c", STILL), here="x", there="a", place=(0, 0))
        book.drop("a")
        book.drop("x")
        self.assert_refused(Unlike, book, ("tie", "c", "z", STILL), here="b", there="y", place=(0, 0))

    def test_the_whole_skies_are_asked(self):
        book = Book()
        blank_glasses(book, 2)
        book.put("s", 1, 1, 1, [(0, 0, 9)])
        book.put("t", 1, 1, 1, [(0, 0, 8)])
        book.tie("a", "s", (0, 5, 0))
        book.tie("b", "t", (0, 7, 0))
        self.assert_refused(Unlike, book, ("tie", "a", "b", (0, -2, 0)), here="s", there="t", place=(0, 0))
        self.assertEqual(book.tie("a", "b", (0, -3, 0)), 3)

    def test_far_apart(self):
        book = Book()
        book.put("s", 1, 1, 1, [(0, 0, 9)])
        book.put("t", 1, 1, 1, [(0, 0, 8)])
        book.put("a", 1, 1, 1, [])
        book.tie("s", "a", (1, HUNDRED, -HUNDRED))
        self.assert_refused(
            Unlike, book, ("tie", "t", "a", (1, HUNDRED, -HUNDRED)), here="t", there="s", place=(0, 0),
        )
        self.assertEqual(book.tie("t", "a", (1, HUNDRED - 1, -HUNDRED)), 2)
        self.assertEqual(book.lies("s", "t"), (0, 1, 0))


class UntieTest(BookCase):
    def test_a_tie_goes(self):
        book = Book()
        blank_glasses(book, 3)
        book.tie("a", "b", STILL)
        book.tie("b", "c", STILL)
        self.assertIsNone(book.untie(1))
        self.assertEqual(book.ties(), [(2, "b", "c", STILL)])
        self.assertEqual(book.skies(), [["a"], ["b", "c"]])
        self.assertEqual(book.tie("a", "b", (1, 0, 0)), 3)

    def test_no_tie(self):
        book = Book()
        self.assert_refused(NoTie, book, ("untie", 1))
        blank_glasses(book, 3)
        book.tie("a", "b", STILL)
        book.tie("b", "c", STILL)
        book.untie(1)
        for number in (0, 1, 3, -1, -2, HUNDRED, -HUNDRED):
            self.assert_refused(NoTie, book, ("untie", number))
        book.drop("c")
        self.assert_refused(NoTie, book, ("untie", 2))


class ByLotTest(BookCase):
    """Deeds of all kinds drawn by lot, each held against the ledger."""

    def drawn(self, rng, heaven, ledger):
        """A deed that may or may not be let."""
        word = rng.choice(["put", "tie", "tie", "tie", "untie", "drop"])
        names = rng.choices(ledger.names() + ["zz"], k=2) if rng.random() < 0.1 else None
        if word == "put" or len(ledger.names()) < 3:
            name = rng.choice("abcdef")
            if name in ledger.names():
                return ("put", name, rng.randint(0, 1), 1, 1, ())
            return ("put", *heaven.cut(name))
        one, other = names or rng.sample(ledger.names(), 2)
        if word == "tie":
            motion = (rng.randint(-1, 8), rng.randint(-2, 2), rng.randint(-2, 2))
            if rng.random() < 0.7 and "zz" not in (one, other):
                motion = heaven.true_motion(one, other)
                if rng.random() < 0.3:
                    motion = (motion[0], motion[1], motion[2] + rng.choice([-1, 1]))
            return ("tie", one, other, motion)
        if word == "untie":
            return ("untie", rng.randint(0, ledger.coming()))
        return ("drop", one if rng.random() < 0.4 else "zz")

    def test_by_lot(self):
        seen = {}
        for seed in range(80):
            rng = random.Random(seed)
            heaven = Heaven(rng, stars=50)
            book, ledger = Book(), Ledger()
            for times in range(35):
                # The ledger goes through all chains, so the ties must be few.
                if len(ledger.ties()) > 8:
                    deed = ("untie", ledger.ties()[rng.randrange(8)][0])
                else:
                    deed = self.drawn(rng, heaven, ledger)
                before = shown(book)
                expected = expected_outcome(ledger.do, deed)
                told = outcome(do, book, deed)
                self.assertEqual(told, expected, (seed, ledger.deeds, deed))
                seen[told[0]] = seen.get(told[0], 0) + 1
                if told[0] != "told":
                    self.assertEqual(shown(book), before)
                self.assertEqual(book.names(), ledger.names())
                self.assertEqual(book.ties(), ledger.ties())
                self.assertEqual(book.log(), ledger.deeds)
        for name in ("told", "NoPlate", "SelfTie", "BadMotion", "Crossed", "Unlike", "NoTie", "Taken", "BadPlate"):
            self.assertGreater(seen.get(name, 0), 5, seen)


if __name__ == "__main__":
    unittest.main()

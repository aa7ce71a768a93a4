"""The questions of a book, as [13], [15], [17] and the interface's nightglass/book.py tell them."""

import random
import unittest

from ledger import Heaven, Ledger
from oracle import (
    HUNDRED, OTHER_HUNDRED, STILL, UNSEEN, expected_form, expected_layings, expected_matches, expected_sure, led,
)
from shown import do, expected_outcome, outcome, shown

from nightglass.book import Book
from nightglass.errors import BadCount, BadMotion, NoLaying, NoPlate, NoTie, SameSky, SelfTie

# Three stars of three brightnesses that no motion leads onto themselves.
CROOK = (3, 2, 4, [(0, 0, 4), (2, 0, 5), (0, 1, 6)])


def three_skies():
    """A ring of four with ties that confirm, a pair far off from one another, and a plate alone."""
    book = Book()
    for name in ("ra", "rb", "rc", "rd"):
        book.put(name, 2, 1, 9, [])
    book.put("far", 1, 1, 5, [(0, 0, 5)])
    book.put("near", 2, 2, 3, [(1, 0, 4)])
    book.put("alone", *CROOK)
    book.tie("ra", "rb", (1, 3, 0))
    book.tie("rb", "rc", (4, 0, 3))
    book.tie("rc", "rd", (0, 5, 5))
    book.tie("ra", "rd", book.lies("ra", "rd"))
    book.tie("rb", "ra", book.lies("rb", "ra"))
    book.tie("near", "far", (6, HUNDRED, -OTHER_HUNDRED))
    return book


class QuestionCase(unittest.TestCase):
    def assert_refused(self, refusal, call, *things):
        with self.assertRaises(refusal, msg=things) as caught:
            call(*things)
        self.assertIs(caught.exception.__class__, refusal)


class LiesAndChainTest(QuestionCase):
    def test_of_itself(self):
        book = three_skies()
        for name in book.names():
            self.assertEqual(book.lies(name, name), STILL)
            self.assertEqual(book.chain(name, name), [])

    def test_of_one_sky(self):
        book = three_skies()
        self.assertEqual(book.lies("ra", "rb"), (1, 3, 0))
        self.assertEqual(book.lies("rb", "ra"), (3, 0, 3))
        self.assertEqual(book.lies("near", "far"), (6, HUNDRED, -OTHER_HUNDRED))
        self.assertEqual(book.lies("far", "near"), (6, -HUNDRED, -OTHER_HUNDRED))
        self.assertEqual(book.chain("ra", "rb"), [1])
        self.assertEqual(book.chain("ra", "rc"), [1, 2])
        self.assertEqual(book.chain("rc", "ra"), [2, 1])
        self.assertEqual(book.chain("rb", "rd"), [1, 4])
        self.assertEqual(book.chain("rd", "rb"), [3, 2])

    def test_behind_ties_taken_away(self):
        book = three_skies()
        lie = book.lies("ra", "rc")
        book.untie(1)
        self.assertEqual(book.chain("ra", "rc"), [4, 3])
        self.assertEqual(book.lies("ra", "rc"), lie)
        self.assertEqual(book.chain("ra", "rb"), [5])
        book.untie(4)
        self.assertEqual(book.chain("ra", "rc"), [5, 2])
        self.assertEqual(book.lies("ra", "rc"), lie)
        book.untie(5)
        self.assertIsNone(book.chain("ra", "rc"))
        self.assertIsNone(book.lies("ra", "rc"))
        self.assertIsNone(book.lies("rc", "ra"))

    def test_apart(self):
        book = three_skies()
        for one, other in (("ra", "near"), ("far", "rd"), ("alone", "near"), ("near", "alone")):
            self.assertIsNone(book.lies(one, other))
            self.assertIsNone(book.chain(one, other))

    def test_kinds(self):
        book = three_skies()
        self.assertIs(type(book.lies("ra", "rb")), tuple)
        self.assertIs(type(book.chain("ra", "rb")), list)
        self.assertIs(type(book.ties()), list)
        self.assertEqual([type(tie) for tie in book.ties()], [tuple] * 6)


class SkiesTest(QuestionCase):
    def test_sky_and_skies(self):
        book = three_skies()
        ring = ["ra", "rb", "rc", "rd"]
        for name in ring:
            self.assertEqual(book.sky(name), ring)
        self.assertEqual(book.sky("near"), ["far", "near"])
        self.assertEqual(book.sky("alone"), ["alone"])
        self.assertEqual(book.skies(), [["alone"], ["far", "near"], ring])

    def test_untied_and_dropped(self):
        book = three_skies()
        book.drop("ra")
        self.assertEqual(book.skies(), [["alone"], ["far", "near"], ["rb", "rc", "rd"]])
        book.untie(2)
        self.assertEqual(book.skies(), [["alone"], ["far", "near"], ["rb"], ["rc", "rd"]])
        book.undo()
        book.drop("rc")
        self.assertEqual(book.skies(), [["alone"], ["far", "near"], ["rb"], ["rd"]])

    def test_in_order_of_names_not_of_deeds(self):
        book = Book()
        for name in ("z", "m", "b", "a"):
            book.put(name, 1, 1, 9, [])
        book.tie("z", "b", STILL)
        book.tie("m", "a", STILL)
        self.assertEqual(book.names(), ["a", "b", "m", "z"])
        self.assertEqual(book.skies(), [["a", "m"], ["b", "z"]])

    def test_no_plates(self):
        self.assertEqual(Book().skies(), [])
        self.assertEqual(Book().names(), [])


class AskTest(QuestionCase):
    def test_by_the_whole_sky_in_the_names_own_frame(self):
        book = Book()
        book.put("a", 2, 1, 5, [(0, 0, 7)])
        book.put("b", 2, 1, 3, [(1, 0, 4)])
        book.put("c", 1, 1, 1, [])
        book.tie("a", "b", (1, 5, 5))
        # b's (1, 0) is a's (5, 6), and a's (0, 0) is b's (-5, 5).
        self.assertEqual(book.ask("a", (0, 0)), ("star", 7))
        self.assertEqual(book.ask("a", (1, 0)), ("under", 5))
        self.assertEqual(book.ask("a", (5, 6)), ("star", 4))
        self.assertEqual(book.ask("a", (5, 5)), ("under", 3))
        self.assertEqual(book.ask("a", (6, 5)), UNSEEN)
        self.assertEqual(book.ask("b", (1, 0)), ("star", 4))
        self.assertEqual(book.ask("b", (-5, 5)), ("star", 7))
        self.assertEqual(book.ask("c", (0, 0)), ("under", 1))
        self.assertEqual(book.ask("c", (5, 6)), UNSEEN)
        self.assertEqual(book.face("a"), [(0, 0, 7), (5, 6, 4)])
        self.assertEqual(book.face("b"), [(-5, 5, 7), (1, 0, 4)])
        self.assertEqual(book.face("c"), [])
        self.assertEqual(book.chart("a"), [
            (0, 0, "star", 7), (1, 0, "under", 5), (5, 5, "under", 3), (5, 6, "star", 4),
        ])
        self.assertEqual(book.chart("c"), [(0, 0, "under", 1)])
        book.untie(1)
        self.assertEqual(book.ask("a", (5, 6)), UNSEEN)
        self.assertEqual(book.chart("a"), [(0, 0, "star", 7), (1, 0, "under", 5)])

    def test_joined_where_windows_lie_on_one_another(self):
        book = Book()
        book.put("a", 2, 1, 7, [(0, 0, 8)])
        book.put("b", 2, 1, 3, [(0, 0, 8)])
        book.tie("a", "b", STILL)
        self.assertEqual(book.chart("a"), [(0, 0, "star", 8), (1, 0, "under", 3)])
        self.assertEqual(book.ask("a", (1, 0)), ("under", 3))

    def test_places_of_a_hundred_figures(self):
        book = three_skies()
        goal = led((6, HUNDRED, -OTHER_HUNDRED), (0, 0))
        self.assertEqual(book.ask("near", goal), ("star", 5))
        self.assertEqual(book.ask("near", (HUNDRED, HUNDRED)), UNSEEN)
        self.assertEqual(book.ask("near", (-HUNDRED, -HUNDRED)), UNSEEN)
        self.assertEqual(book.face("near"), [(1, 0, 4), goal + (5,)])
        self.assertEqual(len(book.chart("near")), 5)

    def test_form(self):
        book = Book()
        book.put("a", *CROOK)
        book.put("b", 1, 1, 9, [])
        book.tie("a", "b", (0, 7, 0))
        book.put("c", *CROOK)
        book.put("d", 1, 1, 9, [])
        book.tie("c", "d", (0, 7, 0))
        self.assertEqual(book.form("a"), expected_form(book.chart("a")))
        self.assertEqual(book.form("a"), book.form("b"))
        self.assertEqual(book.form("a"), book.form("d"))
        book.untie(2)
        self.assertNotEqual(book.form("a"), book.form("c"))

    def test_matches(self):
        book = Book()
        book.put("a", *CROOK)
        book.put("b", *CROOK)
        book.put("c", 2, 2, 4, [])
        self.assertEqual(book.matches("a", "b"), [STILL])
        self.assertEqual(book.matches("a", "a"), [STILL])
        self.assertEqual(book.matches("a", "c"), [])
        self.assertEqual(len(book.matches("c", "c")), 8)
        book.tie("a", "c", (1, 9, 9))
        self.assertEqual(book.matches("a", "b"), [])
        # Of one sky: what leads c's places to a's leads the one chart to the other.
        self.assertEqual(book.matches("a", "c"), [(1, 9, 9)])
        self.assertEqual(book.matches("c", "a"), [book.lies("c", "a")])

    def test_kinds(self):
        book = three_skies()
        for told in (book.chart("ra"), book.face("near"), book.form("ra"), book.matches("ra", "rb"), book.sky("ra"),
                     book.skies(), book.names(), book.stars_of("near")):
            self.assertIs(type(told), list)
        self.assertIs(type(book.ask("ra", (0, 0))), tuple)
        self.assertIs(type(book.window("ra")), tuple)


class LayingsTest(QuestionCase):
    def pair(self):
        book = Book()
        book.put("a", *CROOK)
        book.put("b", *CROOK)
        book.put("c", 1, 1, 9, [])
        book.put("d", 1, 1, 9, [])
        return book

    def test_layings_on_the_frames_of_the_names(self):
        book = self.pair()
        self.assertEqual(book.layings("a", "b", 3), [STILL])
        book.tie("c", "a", (1, 30, 40))
        book.tie("d", "b", (0, -7, 2))
        self.assertEqual(book.layings("a", "b", 3), [STILL])
        self.assertEqual(book.layings("c", "b", 3), [(1, 30, 40)])
        self.assertEqual(book.layings("a", "d", 3), [(0, 7, -2)])
        self.assertEqual(book.layings("a", "b", 4), [])
        self.assertEqual(book.layings("a", "b", HUNDRED), [])
        self.assertIs(type(book.layings("a", "b", 3)), list)

    def test_sure(self):
        book = self.pair()
        book.put("e", 4, 1, 2, [(0, 0, 4), (2, 0, 5)])
        self.assertEqual(book.sure("a", "b", 3, (0, 0)), ("star", 4))
        self.assertEqual(book.sure("a", "b", 3, (1, 1)), ("under", 4))
        self.assertEqual(book.sure("a", "b", 3, (9, 9)), UNSEEN)
        # e lies on a's lower row, mirrored or not; it tells more of (1, 0), and something of (3, 0).
        self.assertEqual(book.layings("a", "e", 2), [STILL, (6, 0, 0)])
        self.assertEqual(book.sure("a", "e", 2, (1, 0)), ("under", 2))
        self.assertEqual(book.sure("a", "e", 2, (3, 0)), ("under", 2))
        self.assertEqual(book.sure("a", "e", 2, (HUNDRED, -HUNDRED)), UNSEEN)

    def test_no_laying(self):
        book = self.pair()
        for least in (4, 5, HUNDRED):
            self.assert_refused(NoLaying, book.sure, "a", "b", least, (0, 0))
        self.assert_refused(NoLaying, book.sure, "c", "d", 1, (0, 0))
        self.assertEqual(book.layings("c", "d", 1), [])

    def test_bad_count(self):
        book = self.pair()
        for least in (0, -1, -HUNDRED):
            self.assert_refused(BadCount, book.layings, "a", "b", least)
            self.assert_refused(BadCount, book.sure, "a", "b", least, (0, 0))
            self.assert_refused(BadCount, book.sure, "c", "d", least, (0, 0))

    def test_same_sky_ahead_of_bad_count(self):
        book = self.pair()
        book.tie("a", "c", (0, 50, 0))
        book.tie("c", "d", (0, 50, 0))
        for least in (3, 1, 0, -1, HUNDRED):
            for one, other in (("a", "a"), ("a", "c"), ("d", "a"), ("b", "b")):
                self.assert_refused(SameSky, book.layings, one, other, least)
                self.assert_refused(SameSky, book.sure, one, other, least, (0, 0))
        book.untie(1)
        self.assert_refused(BadCount, book.layings, "a", "c", 0)
        self.assert_refused(SameSky, book.layings, "d", "c", 0)

    def test_no_plate_ahead_of_all(self):
        book = self.pair()
        for one, other in (("x", "a"), ("a", "x"), ("x", "y"), ("x", "x")):
            for least in (1, 0):
                self.assert_refused(NoPlate, book.layings, one, other, least)
                self.assert_refused(NoPlate, book.sure, one, other, least, (0, 0))


class CarriesTest(QuestionCase):
    def test_carries(self):
        book = three_skies()
        self.assertEqual([book.carries(number) for number in range(1, 7)], [False, False, False, False, False, True])
        book.untie(4)
        self.assertEqual([book.carries(number) for number in (1, 2, 3, 5, 6)], [False, True, True, False, True])
        book.untie(5)
        self.assertIs(book.carries(1), True)
        book.undo()
        self.assertIs(book.carries(1), False)

    def test_no_tie(self):
        book = three_skies()
        book.untie(2)
        book.drop("far")
        for number in (0, -1, 2, 6, 7, HUNDRED, -HUNDRED):
            self.assert_refused(NoTie, book.carries, number)
        self.assert_refused(NoTie, Book().carries, 1)


class WouldTest(QuestionCase):
    def test_let(self):
        book = three_skies()
        self.assertEqual(book.would("ra", "alone", (0, 100, 100)), ("let",))
        self.assertEqual(book.would("ra", "rb", (1, 3, 0)), ("let",))
        self.assertEqual(book.mends("ra", "alone", (0, 100, 100)), [])
        self.assertEqual(book.mends("ra", "rb", (1, 3, 0)), [])

    def test_crossed(self):
        book = three_skies()
        self.assertEqual(book.would("ra", "rc", STILL), ("crossed", [1, 2]))
        self.assertEqual(book.would("rc", "ra", STILL), ("crossed", [2, 1]))
        self.assertEqual(book.would("near", "far", STILL), ("crossed", [6]))
        self.assertIs(type(book.would("near", "far", STILL)), tuple)

    def test_unlike(self):
        book = three_skies()
        self.assertEqual(book.would("alone", "far", STILL), ("unlike", "alone", "far", (0, 0)))
        self.assertEqual(book.would("alone", "far", (0, 1, 1)), ("unlike", "alone", "far", (1, 1)))
        self.assertEqual(book.would("far", "alone", STILL), ("unlike", "far", "alone", (0, 0)))

    def test_full_is_not_asked(self):
        book = three_skies()
        while len(book.ties()) < 40:
            book.tie("ra", "rb", (1, 3, 0))
        self.assertEqual(book.would("ra", "rb", (1, 3, 0)), ("let",))
        self.assertEqual(book.would("ra", "alone", (0, 100, 100)), ("let",))
        self.assertEqual(book.would("near", "far", STILL), ("crossed", [6]))
        self.assertEqual(book.mends("near", "far", (0, 90, 90)), [6])
        self.assertEqual(book.mends("ra", "alone", (0, 100, 100)), [])

    def test_refused(self):
        book = three_skies()
        for question in (book.would, book.mends):
            for one, other in (("x", "ra"), ("ra", "x"), ("x", "y"), ("x", "x")):
                for motion in (STILL, (8, 0, 0), (-1, 0, 0)):
                    self.assert_refused(NoPlate, question, one, other, motion)
            for motion in (STILL, (8, 0, 0)):
                self.assert_refused(SelfTie, question, "ra", "ra", motion)
            for turn in (8, -1, HUNDRED, -HUNDRED):
                self.assert_refused(BadMotion, question, "ra", "rb", (turn, 0, 0))
                self.assert_refused(BadMotion, question, "ra", "near", (turn, 0, 0))

    def test_the_told_chain_is_a_list_of_its_own(self):
        book = three_skies()
        book.would("ra", "rc", STILL)[1].append(5)
        self.assertEqual(book.would("ra", "rc", STILL), ("crossed", [1, 2]))


class MendsTest(QuestionCase):
    def test_crossed_by_a_chain_each_tie_of_which_carries(self):
        book = Book()
        for name in "abcd":
            book.put(name, 1, 1, 9, [])
        book.tie("a", "b", STILL)
        book.tie("b", "c", STILL)
        book.tie("c", "d", STILL)
        self.assertEqual(book.mends("a", "c", (0, 5, 0)), [1, 2])
        self.assertEqual(book.mends("a", "d", (0, 5, 0)), [1, 2, 3])
        # Where one confirms another, neither mends alone.
        book.tie("a", "b", STILL)
        self.assertEqual(book.mends("a", "c", (0, 5, 0)), [2])
        self.assertEqual(book.mends("a", "b", (0, 5, 0)), [])
        book.tie("d", "a", STILL)
        self.assertEqual(book.mends("a", "d", (0, 5, 0)), [])
        self.assertEqual(book.would("a", "d", (0, 5, 0)), ("crossed", [5]))

    def test_crossed_and_then_unlike_is_not_mended(self):
        book = Book()
        book.put("s", 1, 1, 1, [(0, 0, 9)])
        book.put("t", 1, 1, 1, [(0, 0, 8)])
        book.tie("s", "t", (0, 1, 0))
        self.assertEqual(book.would("s", "t", STILL), ("crossed", [1]))
        self.assertEqual(book.mends("s", "t", STILL), [])
        self.assertEqual(book.mends("s", "t", (0, 2, 0)), [1])

    def test_unlike_by_a_plate_that_a_tie_carries(self):
        book = Book()
        book.put("a", 1, 1, 9, [])
        book.put("b", 1, 1, 9, [])
        book.put("s", 1, 1, 1, [(0, 0, 9)])
        book.put("t", 1, 1, 1, [(0, 0, 8)])
        book.tie("a", "s", (0, 5, 0))
        book.tie("b", "t", (0, 5, 0))
        self.assertEqual(book.would("a", "b", STILL), ("unlike", "s", "t", (0, 0)))
        self.assertEqual(book.mends("a", "b", STILL), [1, 2])
        book.tie("s", "a", (0, -5, 0))
        self.assertEqual(book.mends("a", "b", STILL), [2])
        book.tie("t", "b", (0, -5, 0))
        self.assertEqual(book.mends("a", "b", STILL), [])

    def test_unlike_by_the_two_themselves_is_not_mended(self):
        book = Book()
        book.put("s", 1, 1, 1, [(0, 0, 9)])
        book.put("t", 1, 1, 1, [(0, 0, 8)])
        book.put("a", 1, 1, 9, [])
        book.tie("s", "a", (0, 9, 0))
        self.assertEqual(book.mends("s", "t", STILL), [])
        self.assertIs(type(book.mends("s", "t", STILL)), list)


class NoPlateTest(QuestionCase):
    def test_each_question_with_a_name_that_no_plate_has(self):
        book = three_skies()
        book.put("gone", 1, 1, 1, [])
        book.drop("gone")
        for name in ("gone", "", "A", "abcdefghi", "r"):
            for question in (book.window, book.stars_of, book.sky, book.chart, book.face, book.form):
                self.assert_refused(NoPlate, question, name)
            self.assert_refused(NoPlate, book.ask, name, (0, 0))
            for question in (book.lies, book.chain, book.matches):
                for one, other in ((name, "ra"), ("ra", name), (name, name)):
                    self.assert_refused(NoPlate, question, one, other)

    def test_in_a_book_without_plates(self):
        book = Book()
        for question in (book.window, book.stars_of, book.sky, book.chart, book.face, book.form):
            self.assert_refused(NoPlate, question, "a")
        self.assert_refused(NoPlate, book.lies, "a", "a")
        self.assert_refused(NoPlate, book.chain, "a", "a")
        self.assert_refused(NoPlate, book.would, "a", "a", (8, 0, 0))


class ToldListsTest(QuestionCase):
    def test_every_told_list_changed_changes_no_later_answer(self):
        book = three_skies()
        book.put("twin", *CROOK)
        calls = [
            (book.names,), (book.ties,), (book.skies,), (book.log,), (book.stars_of, "near"), (book.chain, "ra", "rc"),
            (book.sky, "ra"), (book.chart, "ra"), (book.face, "near"), (book.form, "ra"), (book.matches, "ra", "rb"),
            (book.layings, "alone", "twin", 1), (book.mends, "near", "far", (0, 90, 90)),
        ]
        before = shown(book)
        for call, *things in calls:
            first = call(*things)
            held = list(first)
            self.assertTrue(first)
            first.append("more")
            first.reverse()
            del first[1:]
            self.assertEqual(call(*things), held)
        book.skies()[2].clear()
        self.assertEqual(shown(book), before)

    def test_handed_in_tuples_are_not_changed(self):
        book = three_skies()
        place, motion = (3, 4), (1, 2, 3)
        book.ask("ra", place)
        book.would("ra", "near", motion)
        book.mends("ra", "rb", motion)
        book.put("twin", *CROOK)
        book.sure("alone", "twin", 3, place)
        self.assertEqual((place, motion), ((3, 4), (1, 2, 3)))


class ByLotTest(QuestionCase):
    """Books made by lot, with every question held against the ledger."""

    def books(self, seeds, side=4, limits=range(3, 10), brights=range(3, 10)):
        for seed in seeds:
            rng = random.Random(seed)
            heaven = Heaven(rng, far=3, stars=45, brights=brights)
            book, ledger = Book(), Ledger()
            deeds = [("put", *heaven.cut(name, side, limits)) for name in rng.sample("abcdefg", rng.randint(2, 6))]
            for times in range(rng.randint(0, 9)):
                one, other = rng.sample(sorted(heaven.motion_of), 2)
                deeds.append(("tie", one, other, heaven.true_motion(one, other)))
            deeds += [("untie", rng.randint(1, 9)) for times in range(rng.randint(0, 2))]
            if rng.random() < 0.3:
                deeds.append(("drop", rng.choice("abcdefg")))
            for deed in deeds:
                self.assertEqual(outcome(do, book, deed), expected_outcome(ledger.do, deed))
            yield rng, heaven, book, ledger

    def assert_same(self, word, book, ledger, *things):
        told = outcome(getattr(book, word), *things)
        self.assertEqual(told, expected_outcome(getattr(ledger, word), *things), (word, things, ledger.deeds))
        return told

    def test_names_skies_and_charts(self):
        for rng, heaven, book, ledger in self.books(range(40)):
            for word in ("names", "ties", "skies"):
                self.assert_same(word, book, ledger)
            for name in ledger.names() + ["zz"]:
                for word in ("window", "stars_of", "sky", "chart", "face"):
                    self.assert_same(word, book, ledger, name)
                for times in range(6):
                    self.assert_same("ask", book, ledger, name, (rng.randint(-9, 9), rng.randint(-9, 9)))
            for number in range(0, 11):
                self.assert_same("carries", book, ledger, number)

    def test_two_names(self):
        for rng, heaven, book, ledger in self.books(range(100, 130)):
            names = ledger.names() + ["zz"]
            for one in names:
                for other in names:
                    self.assert_same("lies", book, ledger, one, other)
                    self.assert_same("chain", book, ledger, one, other)
            for one in ledger.names():
                self.assertEqual(book.form(one), expected_form(ledger.chart(one)))
                for other in ledger.names():
                    expected = expected_matches(ledger.chart(one), ledger.chart(other))
                    self.assertEqual(book.matches(one, other), expected)

    def test_would_and_mends(self):
        seen = {}
        for rng, heaven, book, ledger in self.books(range(200, 260)):
            before = shown(book)
            for times in range(8):
                one, other = rng.sample(ledger.names() + ["zz"], 2)
                motion = (rng.randint(-1, 8), rng.randint(-3, 3), rng.randint(-3, 3))
                if "zz" not in (one, other) and rng.random() < 0.5:
                    turn, right, up = heaven.true_motion(one, other)
                    motion = (turn, right + rng.randint(-1, 1), up)
                would = self.assert_same("would", book, ledger, one, other, motion)
                mends = self.assert_same("mends", book, ledger, one, other, motion)
                kind = (would[1][0], bool(mends[1])) if would[0] == "told" else would[0]
                seen[kind] = seen.get(kind, 0) + 1
            self.assertEqual(shown(book), before)
        for kind in (("let", False), ("crossed", True), ("crossed", False), ("unlike", True), ("unlike", False),
                     "BadMotion", "NoPlate"):
            self.assertGreater(seen.get(kind, 0), 2, seen)

    def test_layings_and_sure(self):
        several = 0
        for rng, heaven, book, ledger in self.books(range(300, 440), 3, (7, 8), (8, 9)):
            for times in range(4):
                one, other = rng.choices(ledger.names(), k=2)
                least = rng.choice([0, 1, 1, 1, 2])
                place = (rng.randint(-3, 5), rng.randint(-3, 5))
                layings = outcome(book.layings, one, other, least)
                sure = outcome(book.sure, one, other, least, place)
                if ledger.lies(one, other) is not None:
                    self.assertEqual((layings[0], sure[0]), ("SameSky", "SameSky"))
                elif least < 1:
                    self.assertEqual((layings[0], sure[0]), ("BadCount", "BadCount"))
                else:
                    ones, others = ledger.lays(one), ledger.lays(other)
                    expected = expected_layings(ones, others, least)
                    self.assertEqual(layings, ("told", expected))
                    if expected:
                        several += 1
                        self.assertEqual(sure, ("told", expected_sure(ones, others, expected, place)))
                    else:
                        self.assertEqual(sure[0], "NoLaying")
        self.assertGreater(several, 20)


if __name__ == "__main__":
    unittest.main()

"""undo, redo, log, twin and replayed, as [15], [16] and the interface's nightglass/book.py tell them."""

import copy
import random
import unittest

from ledger import Heaven, Ledger
from oracle import HUNDRED, STILL
from shown import do, done_again, expected_outcome, outcome, shown, taken_back

from nightglass.book import Book, replayed
from nightglass.errors import (
    BadCount, BadMotion, BadName, BadPlate, Crossed, Full, GlassError, NoDeed, NoPlate, NoTie, SameSky, SelfTie,
    Taken, Unlike,
)
from nightglass.papers import book_rows, read_book

# Deeds of all kinds; the told ones are as the log has them.
DEEDS = [
    ("put", "vega", 2, 2, 3, ((0, 0, 5), (1, 1, 9))),
    ("put", "lyra", 1, 1, 9, ()),
    ("put", "a", 3, 1, 8, ((2, 0, 8),)),
    ("tie", "vega", "lyra", (1, 20, -3)),
    ("tie", "lyra", "a", (4, HUNDRED, -HUNDRED)),
    ("tie", "vega", "lyra", (1, 20, -3)),
    ("untie", 1),
    ("drop", "lyra"),
    ("put", "lyra", 2, 2, 2, ()),
    ("tie", "a", "lyra", (0, 9, 9)),
    ("untie", 4),
    ("drop", "vega"),
]

REFUSED = [
    (("put", "A", 1, 1, 1, ()), BadName),
    (("put", "new", 0, 1, 1, ()), BadPlate),
    (("put", "a", 1, 1, 1, ()), Taken),
    (("drop", "nobody"), NoPlate),
    (("tie", "a", "nobody", STILL), NoPlate),
    (("tie", "a", "a", STILL), SelfTie),
    (("tie", "a", "lyra", (8, 0, 0)), BadMotion),
    (("untie", 77), NoTie),
]


def book_with(deeds):
    """A book in which deeds were done by its own methods."""
    book = Book()
    for deed in deeds:
        do(book, deed)
    return book


def all_questions(book):
    """Asks a book everything that it can be asked, also what it refuses."""
    names = book.names() + ["nobody"]
    for name in names:
        for question in (book.window, book.stars_of, book.sky, book.chart, book.face, book.form):
            outcome(question, name)
        outcome(book.ask, name, (0, 0))
        for other in names:
            for question in (book.lies, book.chain, book.matches):
                outcome(question, name, other)
            for least in (0, 1):
                outcome(book.layings, name, other, least)
                outcome(book.sure, name, other, least, (0, 0))
            for motion in (STILL, (8, 0, 0)):
                outcome(book.would, name, other, motion)
                outcome(book.mends, name, other, motion)
    for number in range(6):
        outcome(book.carries, number)
    for question in (book.names, book.ties, book.skies, book.log, book.twin):
        question()
    book_rows(book)


class UndoTest(unittest.TestCase):
    def assert_none(self, call):
        with self.assertRaises(NoDeed):
            call()

    def test_nothing_to_undo_or_redo_at_first(self):
        book = Book()
        before = shown(book)
        self.assert_none(book.undo)
        self.assert_none(book.redo)
        self.assertEqual(shown(book), before)

    def test_each_deed_is_taken_back_and_done_again(self):
        for many in range(len(DEEDS)):
            book = book_with(DEEDS[:many])
            before = book_rows(book)
            do(book, DEEDS[many])
            behind = book_rows(book)
            self.assertEqual(book.undo(), DEEDS[many])
            self.assertEqual(book_rows(book), before)
            self.assertEqual(book.log(), DEEDS[:many])
            self.assertEqual(book.redo(), DEEDS[many])
            self.assertEqual(book_rows(book), behind)
            self.assertEqual(book.log(), DEEDS[:many + 1])

    def test_all_of_them_in_a_row_and_then_one_more(self):
        book = book_with(DEEDS)
        at_last = book_rows(book)
        states = [book_rows(book_with(DEEDS[:many])) for many in range(len(DEEDS))]
        self.assertEqual(taken_back(book), list(zip(reversed(DEEDS), reversed(states))))
        self.assert_none(book.undo)
        self.assertEqual((book.names(), book.ties(), book.log()), ([], [], []))
        self.assertEqual(done_again(book), list(zip(DEEDS, states[1:] + [at_last])))
        self.assert_none(book.redo)
        self.assertEqual(book.log(), DEEDS)

    def test_the_next_number_is_as_it_was(self):
        book = book_with(DEEDS[:4])
        self.assertEqual(book.tie("lyra", "a", STILL), 2)
        book.undo()
        self.assertEqual(book.tie("lyra", "a", (1, 0, 0)), 2)
        book.untie(2)
        self.assertEqual(book.tie("lyra", "a", STILL), 3)
        for times in range(4):
            book.undo()
        self.assertEqual(book.tie("vega", "lyra", (0, 7, 7)), 1)
        book.undo()
        book.redo()
        self.assertEqual(book.tie("vega", "lyra", (0, 7, 7)), 2)

    def test_a_dropped_plate_comes_back_with_its_ties(self):
        book = book_with(DEEDS[:6])
        ties = book.ties()
        book.drop("lyra")
        self.assertEqual(book.ties(), [])
        self.assertEqual(book.undo(), ("drop", "lyra"))
        self.assertEqual(book.ties(), ties)
        self.assertEqual(book.window("lyra"), (1, 1, 9))
        self.assertEqual(book.lies("vega", "lyra"), (1, 20, -3))

    def test_a_deed_that_is_let_ends_what_was_taken_back(self):
        for deed in (("put", "new", 1, 1, 1, ()), ("drop", "vega"), ("tie", "vega", "a", (0, 50, 50)), ("untie", 1)):
            book = book_with(DEEDS[:6])
            book.undo()
            book.undo()
            do(book, deed)
            self.assert_none(book.redo)
            self.assertEqual(book.log(), DEEDS[:4] + [deed])
            self.assertEqual(book.undo(), deed)
            self.assertEqual(book.redo(), deed)
            self.assert_none(book.redo)

    def test_the_very_deed_that_was_taken_back_ends_it_too(self):
        book = book_with(DEEDS[:6])
        book.undo()
        book.undo()
        do(book, DEEDS[4])
        self.assert_none(book.redo)
        self.assertEqual(book.log(), DEEDS[:5])

    def test_a_refused_deed_or_a_question_does_not(self):
        book = book_with(DEEDS[:6])
        book.undo()
        book.undo()
        before = shown(book)
        for deed, refusal in REFUSED:
            with self.assertRaises(refusal):
                do(book, deed)
            self.assertEqual(shown(book), before)
        with self.assertRaises(Crossed):
            book.tie("vega", "lyra", STILL)
        with self.assertRaises(Unlike):
            book.tie("vega", "a", (0, -2, 0))
        all_questions(book)
        self.assertEqual(shown(book), before)
        self.assertEqual(book.redo(), DEEDS[4])
        self.assertEqual(book.redo(), DEEDS[5])
        self.assert_none(book.redo)

    def test_undo_and_redo_that_are_refused_change_nothing(self):
        book = book_with(DEEDS[:3])
        before = shown(book)
        self.assert_none(book.redo)
        self.assertEqual(shown(book), before)
        for times in range(3):
            book.undo()
        before = shown(book)
        self.assert_none(book.undo)
        self.assertEqual(shown(book), before)
        self.assertEqual(len(done_again(book)), 3)

    def test_full_is_taken_back_and_done_again(self):
        book = Book()
        for letter in "abcdefghijkl":
            book.put(letter, 1, 1, 9, [])
        for times in range(40):
            book.tie("a", "b", STILL)
        full = shown(book)
        with self.assertRaises(Full):
            book.put("m", 1, 1, 1, [])
        book.untie(3)
        self.assertEqual(book.undo(), ("untie", 3))
        with self.assertRaises(Full):
            book.tie("a", "b", STILL)
        self.assertEqual(book.log(), full[5])
        for times in range(52):
            book.undo()
        self.assertEqual(book.redo(), ("put", "a", 1, 1, 9, ()))
        for times in range(51):
            book.redo()
        self.assertEqual(shown(book)[:7], full[:7])
        self.assertEqual(book.redo(), ("untie", 3))

    def test_by_lot(self):
        for seed in range(30):
            rng = random.Random(seed)
            heaven = Heaven(rng)
            book, ledger = Book(), Ledger()
            for times in range(60):
                names = ledger.names()
                free = [name for name in "abcde" if name not in names]
                choice = rng.choice(["undo", "undo", "redo", "redo", "put", "tie", "tie", "untie", "drop"])
                if choice in ("undo", "redo"):
                    pair = (getattr(book, choice), getattr(ledger, choice))
                    told, expected = outcome(pair[0]), expected_outcome(pair[1])
                else:
                    deed = ("drop", rng.choice("abcde"))
                    if choice == "put" and free:
                        deed = ("put", *heaven.cut(free[0]))
                    elif choice == "tie" and len(names) > 1 and len(ledger.ties()) < 8:
                        one, other = rng.sample(names, 2)
                        deed = ("tie", one, other, heaven.true_motion(one, other))
                    elif choice == "untie":
                        deed = ("untie", rng.randint(1, ledger.coming()))
                    told, expected = outcome(do, book, deed), expected_outcome(ledger.do, deed)
                self.assertEqual(told, expected, (seed, ledger.deeds))
                self.assertEqual(book.log(), ledger.deeds)
                self.assertEqual(book_rows(book), ledger.rows())
                self.assertEqual([deed for deed, rows in done_again(book.twin())], ledger.undone[::-1])


class LogTest(unittest.TestCase):
    def test_the_deeds_that_count(self):
        book = Book()
        for many, deed in enumerate(DEEDS):
            self.assertEqual(book.log(), DEEDS[:many])
            do(book, deed)
        self.assertEqual(book.log(), DEEDS)

    def test_kinds(self):
        book = book_with(DEEDS)
        log = book.log()
        self.assertIs(type(log), list)
        for deed in log + [book.undo(), book.redo()]:
            self.assertIs(type(deed), tuple)
            if deed[0] == "put":
                self.assertIs(type(deed[5]), tuple)
                self.assertEqual([type(star) for star in deed[5]], [tuple] * len(deed[5]))
            if deed[0] == "tie":
                self.assertIs(type(deed[3]), tuple)

    def test_stars_of_a_put_are_told_in_order(self):
        book = Book()
        book.put("vega", 3, 3, 1, [(2, 1, 4), (0, 2, 9), (2, 0, 7), (0, 1, 1)])
        deed = ("put", "vega", 3, 3, 1, ((0, 1, 1), (0, 2, 9), (2, 0, 7), (2, 1, 4)))
        self.assertEqual(book.log(), [deed])
        self.assertEqual(book.undo(), deed)
        self.assertEqual(book.redo(), deed)

    def test_refused_deeds_do_not_count(self):
        book = book_with(DEEDS[:6])
        for deed, refusal in REFUSED:
            with self.assertRaises(refusal):
                do(book, deed)
        self.assertEqual(book.log(), DEEDS[:6])

    def test_a_told_log_is_a_new_list(self):
        book = book_with(DEEDS)
        before = shown(book)
        log = book.log()
        log.pop()
        log.append(("drop", "nobody"))
        self.assertEqual(shown(book), before)


class TwinTest(unittest.TestCase):
    def test_a_twin_is_as_its_book_is(self):
        for many in range(len(DEEDS) + 1):
            for undone in range(many + 1):
                book = book_with(DEEDS[:many])
                for times in range(undone):
                    book.undo()
                self.assertEqual(shown(book.twin()), shown(book))
                self.assertIs(type(book.twin()), Book)

    def test_deeds_in_one_do_not_touch_the_other(self):
        for deed in (("put", "new", 1, 1, 1, ()), ("drop", "vega"), ("tie", "lyra", "vega", (3, 3, 20)), ("untie", 1),
                     ("undo",), ("redo",)):
            book = book_with(DEEDS[:6])
            book.undo()
            twin = book.twin()
            before = shown(book)
            do(twin, deed)
            self.assertEqual(shown(book), before)
            self.assertNotEqual(shown(twin), before)
            other = book.twin()
            do(book, deed)
            self.assertEqual(shown(other), before)
            self.assertEqual(shown(book), shown(twin))

    def test_both_have_their_own_log_undo_and_redo(self):
        book = book_with(DEEDS[:6])
        twin = book.twin()
        self.assertEqual(book.undo(), DEEDS[5])
        self.assertEqual(twin.log(), DEEDS[:6])
        twin.put("new", 1, 1, 1, [])
        self.assertEqual(book.redo(), DEEDS[5])
        self.assertEqual(twin.undo(), ("put", "new", 1, 1, 1, ()))
        self.assertEqual(len(taken_back(twin)), 6)
        self.assertEqual(book.log(), DEEDS[:6])
        self.assertEqual(book.tie("vega", "lyra", (1, 20, -3)), 4)
        self.assertEqual(len(done_again(twin)), 7)

    def test_a_twin_of_a_twin(self):
        book = book_with(DEEDS[:5])
        twin = book.twin().twin()
        book.undo()
        self.assertEqual(twin.log(), DEEDS[:5])


class ReplayedTest(unittest.TestCase):
    def test_no_deeds(self):
        self.assertEqual(shown(replayed([])), shown(Book()))
        self.assertIs(type(replayed([])), Book)

    def test_a_log_replayed_tells_the_same_book(self):
        for many in range(len(DEEDS) + 1):
            book = book_with(DEEDS[:many])
            self.assertEqual(shown(replayed(book.log())), shown(book))

    def test_a_log_behind_undo_and_redo(self):
        book = book_with(DEEDS[:6])
        book.undo()
        book.undo()
        book.tie("a", "lyra", (2, 30, 0))
        book.untie(1)
        book.undo()
        told = replayed(book.log())
        self.assertEqual(shown(told)[:7], shown(book)[:7])
        with self.assertRaises(NoDeed):
            told.redo()
        self.assertEqual(told.undo(), ("tie", "a", "lyra", (2, 30, 0)))

    def test_stars_may_stand_in_any_order(self):
        stars = [(0, 0, 5), (0, 1, 3), (1, 0, 9), (1, 1, 4)]
        rng = random.Random(3)
        for times in range(10):
            rng.shuffle(stars)
            book = replayed([("put", "vega", 2, 2, 3, tuple(stars))])
            self.assertEqual(book.stars_of("vega"), sorted(stars))
            self.assertEqual(book.log(), [("put", "vega", 2, 2, 3, tuple(sorted(stars)))])

    def test_refused_as_the_first_deed_that_is_refused(self):
        for deed, refusal in REFUSED:
            for later, other in REFUSED:
                with self.assertRaises(refusal) as caught:
                    replayed(DEEDS[:6] + [deed, later])
                self.assertIs(caught.exception.__class__, refusal)
        with self.assertRaises(NoTie):
            replayed([("untie", 1)] + DEEDS)

    def test_fields_of_the_refusal(self):
        with self.assertRaises(Crossed) as crossed:
            replayed(DEEDS[:5] + [("tie", "a", "vega", STILL), ("drop", "nobody")])
        self.assertEqual(crossed.exception.by, [2, 1])
        with self.assertRaises(Unlike) as unlike:
            replayed(DEEDS[:3] + [("tie", "a", "vega", (0, 2, 0)), ("drop", "nobody")])
        self.assertEqual(
            (unlike.exception.here, unlike.exception.there, unlike.exception.place), ("a", "vega", (2, 0)),
        )

    def test_full(self):
        puts = [("put", letter, 1, 1, 9, ()) for letter in "abcdefghijklm"]
        ties = [("tie", "a", "b", STILL)] * 41
        self.assertEqual(len(replayed(puts[:12] + ties[:40]).ties()), 40)
        with self.assertRaises(Full):
            replayed(puts)
        with self.assertRaises(Full):
            replayed(puts[:12] + ties)

    def test_each_replayed_book_is_a_new_one(self):
        one, other = replayed(DEEDS[:6]), replayed(DEEDS[:6])
        one.drop("a")
        one.undo()
        one.undo()
        self.assertEqual(other.log(), DEEDS[:6])

    def test_the_deeds_handed_in_are_neither_changed_nor_kept(self):
        deeds = list(DEEDS)
        before = copy.deepcopy(deeds)
        book = replayed(deeds)
        self.assertEqual(deeds, before)
        held = shown(book)
        deeds.clear()
        self.assertEqual(shown(book), held)


class ApartTest(unittest.TestCase):
    def test_two_books_used_by_turns(self):
        one, other = Book(), Book()
        for many, deed in enumerate(DEEDS):
            do(one, deed)
            self.assertEqual(other.log(), DEEDS[:many])
            do(other, deed)
            self.assertEqual(shown(one), shown(other))
        held = shown(other)
        taken_back(one)
        self.assertEqual(shown(other), held)
        one.put("alone", 1, 1, 1, [])
        self.assertEqual(shown(other), held)
        self.assertEqual(Book().names(), [])

    def test_numbers_are_counted_in_each_book_alone(self):
        books = [book_with(DEEDS[:3]) for side in range(2)]
        told = [book.tie("vega", "lyra", (0, 40, 0)) for times in range(3) for book in books]
        self.assertEqual(told, [1, 1, 2, 2, 3, 3])

    def test_questions_leave_the_book_as_it_is(self):
        for many in range(len(DEEDS) + 1):
            book = book_with(DEEDS[:many])
            for undone in range(min(many, 2) + 1):
                before = shown(book)
                all_questions(book)
                self.assertEqual(shown(book), before)
                if undone < min(many, 2):
                    book.undo()

    def test_a_book_that_was_read_has_nothing_to_undo(self):
        book = read_book(book_rows(book_with(DEEDS[:6])))
        self.assertEqual(book.log(), [])
        with self.assertRaises(NoDeed):
            book.undo()
        self.assertEqual(book.tie("vega", "lyra", (1, 20, -3)), 4)
        self.assertEqual(book.undo(), ("tie", "vega", "lyra", (1, 20, -3)))

    def test_refusals_of_questions_are_glass_errors(self):
        book = book_with(DEEDS[:4])
        for refusal, call in (
            (NoPlate, lambda: book.ask("nobody", (0, 0))),
            (SameSky, lambda: book.layings("vega", "lyra", 1)),
            (BadCount, lambda: book.layings("vega", "a", 0)),
            (NoTie, lambda: book.carries(9)),
        ):
            with self.assertRaises(refusal) as caught:
                call()
            self.assertIsInstance(caught.exception, GlassError)


if __name__ == "__main__":
    unittest.main()

"""A book's rows, as [19] and the interface's nightglass/papers.py tell them."""

import copy
import random
import unittest

from ledger import Heaven, Ledger
from oracle import HUNDRED, OTHER_HUNDRED, STILL
from shown import do, shown

from nightglass.book import Book, replayed
from nightglass.errors import BadText, NoDeed
from nightglass.papers import book_rows, read_book

# Three plates, three ties with gaps in their numbers, and a next one above all of them.
ROWS = [
    "plate a 3 1 8 2,0,8",
    "plate lyra 1 1 9",
    "plate vega 2 2 3 0,0,5 1,1,9",
    "tie 2 vega lyra 1 20 -3",
    "tie 5 lyra a 4 7 -7",
    "tie 6 lyra vega 3 3 20",
    "next 9",
]

TWELVE = [f"plate {letter} 1 1 9" for letter in "abcdefghijkl"]

# Rows that are no row at all, wherever they stand.
NO_ROWS = [
    "", " ", "  ", "plate", "tie", "next", "Plate m 1 1 1", "PLATE m 1 1 1", "plates m 1 1 1", "put m 1 1 1", "drop a",
    "untie 2", "tie vega lyra 1 2 3", "undo", "rows", "plate m 1 1", "plate m 1 1 1 1", "plate 1 1 1 m", "plate m 1 1 1 ",
    " plate m 1 1 1", "plate  m 1 1 1", "plate M 1 1 1", "plate m1 1 1 1", "plate  1 1 1", "plate m 01 1 1",
    "plate m 1 +1 1", "plate m 1 1 -0", "plate m 1 1 1 0,0", "plate m 1 1 1 0,0,5,5", "plate m 1 1 1 0,0,05",
    "plate m 1 1 1 0,0,5,", "plate m 1 1 1  0,0,5", "plate m 1 1 1 0, 0,5", "plate m 1 1 1_0", "plate m,1,1,1",
    "tie 7 vega lyra 1 20", "tie 7 vega lyra 1 20 -3 0", "tie 7 vega 1 20 -3", "tie seven vega lyra 1 20 -3",
    "tie 07 vega lyra 1 20 -3", "tie 7 Vega lyra 1 20 -3", "tie 7 vega lyr4 1 20 -3", "tie 7 vega lyra 1 20 -03",
    "tie 7 vega lyra 1 20 -", "tie 7 vega lyra 1  -3", "tie 7 vega lyra 1 20 -3 ", "tie  7 vega lyra 1 20 -3",
    "tie 7 vega lyra 1,20,-3", "tie 7 vega lyra +1 20 -3", "tie vega lyra 7 1 20 -3",
    "next ", "next  9", " next 9", "next 9 ", "next 09", "next +9", "next -0", "next nine", "next 9 9", "nextt 9",
    "Next 9", "next9", "next 9,", "next", "next " + "9" * 101, "tie " + "9" * 101 + " vega lyra 1 20 -3",
    "plate m 1 1 " + "1" * 101, "tie 7 vega lyra 1 " + "2" * 101 + " -3",
]

# Plate rows in the right form that are no plate as in [4].
NO_PLATES = [
    "plate mmmmmmmmm 1 1 1", "plate m 0 1 1", "plate m 9 1 1", "plate m -1 1 1", "plate m 1 0 1", "plate m 1 9 1",
    "plate m 1 1 0", "plate m 1 1 10", "plate m 2 2 3 2,0,5", "plate m 2 2 3 0,2,5", "plate m 2 2 3 -1,0,5",
    "plate m 2 2 3 0,0,2", "plate m 2 2 3 0,0,10", "plate m 2 2 3 0,0,5 0,0,5", "plate m 2 2 3 0,0,5 0,0,6",
    "plate m 3 3 1 0,0,5 0,1,5 0,2,5 1,0,5 1,1,5 1,2,5 2,0,5 2,1,5 2,2,5",
    f"plate m {HUNDRED} 1 1", f"plate m 1 1 -{HUNDRED}",
]

# Tie rows in the right form that are refused behind ROWS[:4], as NoPlate, SelfTie, BadMotion, Crossed or Unlike.
NO_TIES = [
    "tie 5 vega nobody 1 20 -3", "tie 5 nobody vega 1 20 -3", "tie 5 nobody nobody 1 20 -3", "tie 5 vega vega 0 0 0",
    "tie 5 vega lyra 8 20 -3", "tie 5 vega lyra -1 20 -3", f"tie 5 vega lyra {HUNDRED} 20 -3", "tie 5 vega lyra 1 20 -4",
    "tie 5 lyra vega 1 20 -3", "tie 5 vega a 0 -2 0", "tie 5 a vega 0 2 0", "tie 2 vega lyra 1 20 -3",
    "tie 1 vega lyra 1 20 -3", "tie 0 vega lyra 1 20 -3", "tie -5 vega lyra 1 20 -3",
]


class PapersCase(unittest.TestCase):
    def assert_at_fault(self, rows, row):
        held = list(rows)
        with self.assertRaises(BadText, msg=rows) as caught:
            read_book(rows)
        self.assertEqual(caught.exception.row, row, rows)
        self.assertEqual(rows, held)

    def assert_read(self, rows):
        book = read_book(rows)
        self.assertIs(type(book), Book)
        self.assertEqual(book_rows(book), rows)
        return book


class RowsTest(PapersCase):
    def test_a_book_without_plates(self):
        self.assertEqual(book_rows(Book()), ["next 1"])

    def test_plates_ties_and_next(self):
        book = Book()
        book.put("vega", 2, 2, 3, [(1, 1, 9), (0, 0, 5)])
        book.put("lyra", 1, 1, 9, [])
        book.put("a", 3, 1, 8, [(2, 0, 8)])
        for times in range(2):
            book.tie("vega", "lyra", (1, 20, -3))
        book.untie(1)
        book.tie("vega", "lyra", (1, 20, -3))
        book.tie("vega", "lyra", (1, 20, -3))
        book.tie("lyra", "a", (4, 7, -7))
        book.tie("lyra", "vega", (3, 3, 20))
        book.tie("lyra", "vega", (3, 3, 20))
        book.tie("lyra", "vega", (3, 3, 20))
        for number in (3, 4, 7, 8):
            book.untie(number)
        self.assertEqual(book_rows(book), ROWS)

    def test_far_motions(self):
        book = Book()
        book.put("a", 1, 1, 1, [])
        book.put("b", 1, 1, 1, [])
        book.tie("a", "b", (7, HUNDRED, -OTHER_HUNDRED))
        rows = book_rows(book)
        self.assertEqual(rows[2:], [f"tie 1 a b 7 {HUNDRED} -{OTHER_HUNDRED}", "next 2"])
        self.assert_read(rows)

    def test_the_next_number_stays_behind_ties_taken_away(self):
        book = Book()
        book.put("a", 1, 1, 1, [])
        book.put("b", 1, 1, 1, [])
        book.tie("a", "b", STILL)
        book.drop("a")
        self.assertEqual(book_rows(book), ["plate b 1 1 1", "next 2"])
        book.undo()
        book.undo()
        self.assertEqual(book_rows(book), ["plate a 1 1 1", "plate b 1 1 1", "next 1"])

    def test_a_told_list_changed_changes_nothing(self):
        book = read_book(ROWS)
        rows = book_rows(book)
        rows.clear()
        self.assertEqual(book_rows(book), ROWS)
        self.assertIs(type(rows), list)

    def test_names_are_in_order_of_texts_and_stars_in_order_of_numbers(self):
        book = Book()
        for name in ("b", "ab", "aa", "a", "ba"):
            book.put(name, 1, 1, 1, [])
        book.put("next", 8, 2, 1, [(7, 0, 2), (0, 1, 9), (1, 1, 1), (1, 0, 3)])
        self.assertEqual(book_rows(book), [
            "plate a 1 1 1", "plate aa 1 1 1", "plate ab 1 1 1", "plate b 1 1 1", "plate ba 1 1 1",
            "plate next 8 2 1 0,1,9 1,0,3 1,1,1 7,0,2", "next 1",
        ])


class ReadTest(PapersCase):
    def test_the_least_rows(self):
        book = self.assert_read(["next 1"])
        self.assertEqual((book.names(), book.ties(), book.log()), ([], [], []))

    def test_rows_read(self):
        book = self.assert_read(ROWS)
        self.assertEqual(book.names(), ["a", "lyra", "vega"])
        self.assertEqual(book.window("a"), (3, 1, 8))
        self.assertEqual(book.stars_of("vega"), [(0, 0, 5), (1, 1, 9)])
        self.assertEqual(book.ties(), [
            (2, "vega", "lyra", (1, 20, -3)), (5, "lyra", "a", (4, 7, -7)), (6, "lyra", "vega", (3, 3, 20)),
        ])
        self.assertEqual(book.chain("a", "vega"), [5, 2])

    def test_the_next_tie_gets_the_next_number(self):
        book = read_book(ROWS)
        self.assertEqual(book.tie("vega", "lyra", (1, 20, -3)), 9)
        self.assertEqual(book.tie("vega", "lyra", (1, 20, -3)), 10)
        book = read_book(ROWS[:6] + [f"next {HUNDRED}"])
        self.assertEqual(book.tie("vega", "lyra", (1, 20, -3)), HUNDRED)
        book = read_book(ROWS[:3] + ["next 1"])
        self.assertEqual(book.tie("vega", "lyra", (1, 20, -3)), 1)

    def test_nothing_to_undo_or_redo(self):
        book = read_book(ROWS)
        self.assertEqual(book.log(), [])
        for call in (book.undo, book.redo):
            with self.assertRaises(NoDeed):
                call()
        self.assertEqual(book_rows(book), ROWS)

    def test_deeds_done_behind_that_are_undone_as_in_any_book(self):
        book = read_book(ROWS)
        deeds = [("tie", "vega", "a", book.lies("vega", "a")), ("drop", "lyra"), ("untie", 9), ("put", "m", 1, 1, 1, ())]
        for deed in deeds:
            do(book, deed)
        self.assertEqual(book.log(), deeds)
        self.assertEqual([book.undo() for deed in deeds], deeds[::-1])
        self.assertEqual(book_rows(book), ROWS)
        with self.assertRaises(NoDeed):
            book.undo()
        self.assertEqual([book.redo() for deed in deeds], deeds)
        with self.assertRaises(NoDeed):
            book.redo()

    def test_twins_of_a_book_that_was_read(self):
        book = read_book(ROWS)
        twin = book.twin()
        twin.drop("a")
        self.assertEqual(book_rows(book), ROWS)
        twin.undo()
        self.assertEqual(shown(twin)[:6], shown(book)[:6])

    def test_two_books_of_the_same_rows_do_not_touch_one_another(self):
        one, other = read_book(ROWS), read_book(ROWS)
        one.drop("lyra")
        self.assertEqual(book_rows(other), ROWS)

    def test_rows_handed_in_are_neither_changed_nor_kept(self):
        rows = list(ROWS)
        book = read_book(rows)
        self.assertEqual(rows, ROWS)
        rows.clear()
        self.assertEqual(book_rows(book), ROWS)

    def test_twelve_plates_and_forty_ties(self):
        ties = [f"tie {number} a b 1 2 3" for number in range(3, 123, 3)]
        book = self.assert_read(TWELVE + ties + ["next 121"])
        self.assertEqual((len(book.names()), len(book.ties())), (12, 40))

    def test_numbers_of_a_hundred_figures(self):
        self.assert_read(["plate a 1 1 9", "plate b 1 1 9", f"tie {HUNDRED - 1} a b 0 {HUNDRED} -{HUNDRED}", f"next {HUNDRED}"])

    def test_books_by_lot_written_and_read_back(self):
        for seed in range(40):
            rng = random.Random(seed)
            heaven = Heaven(rng)
            book, ledger = Book(), Ledger()
            deeds = [("put", *heaven.cut(name)) for name in rng.sample("abcdef", rng.randint(0, 6))]
            for times in range(rng.randint(0, 12)):
                if len(heaven.motion_of) > 1:
                    one, other = rng.sample(sorted(heaven.motion_of), 2)
                    deeds.append(("tie", one, other, heaven.true_motion(one, other)))
                    if rng.random() < 0.3:
                        deeds.append(("untie", len([deed for deed in deeds if deed[0] == "tie"])))
            for deed in deeds:
                self.assertEqual(do(book, deed), ledger.do(deed))
            self.assertEqual(book_rows(book), ledger.rows())
            read = self.assert_read(ledger.rows())
            self.assertEqual(shown(read)[:5], shown(book)[:5])
            self.assertEqual(shown(replayed(book.log()))[:5], shown(read)[:5])


class AtFaultTest(PapersCase):
    def test_no_rows_and_no_next(self):
        self.assert_at_fault([], 0)
        for many in range(1, 7):
            self.assert_at_fault(ROWS[:many], many)

    def test_no_row_at_all(self):
        for row in NO_ROWS:
            for at in range(len(ROWS) + 1):
                self.assert_at_fault(ROWS[:at] + [row] + ROWS[at:], at)
                self.assert_at_fault(ROWS[:at] + [row], at)
            for at in range(len(ROWS)):
                self.assert_at_fault(ROWS[:at] + [row] + ROWS[at + 1:], at)

    def test_a_row_behind_the_next_one(self):
        for row in ROWS + ["next 10", "next 1", "plate z 1 1 1", "tie 9 vega lyra 1 20 -3", "", "nonsense"]:
            self.assert_at_fault(ROWS + [row], 7)
            self.assert_at_fault(ROWS + [row, row], 7)
            self.assert_at_fault(["next 1", row], 1)

    def test_a_plate_behind_a_tie(self):
        for at in (4, 5, 6):
            self.assert_at_fault(ROWS[:at] + ["plate z 1 1 1"] + ROWS[at:], at)
        self.assert_at_fault(ROWS[:4] + [ROWS[0]] + ROWS[4:], 4)

    def test_a_name_that_does_not_come_behind_the_one_ahead(self):
        self.assert_at_fault(["plate b 1 1 1", "plate a 1 1 1", "next 1"], 1)
        self.assert_at_fault(["plate b 1 1 1", "plate b 1 1 1", "next 1"], 1)
        self.assert_at_fault(["plate a 1 1 1", "plate c 1 1 1", "plate b 1 1 1", "next 1"], 2)
        self.assert_at_fault(["plate ab 1 1 1", "plate a 1 1 1", "next 1"], 1)
        self.assert_at_fault(["plate b 1 1 1", "plate c 1 1 1", "plate a 1 1 1", "plate d 1 1 1", "next 1"], 2)
        self.assert_read(["plate a 1 1 1", "plate ab 1 1 1", "plate b 1 1 1", "next 1"])

    def test_stars_not_in_order(self):
        for stars in ("1,1,9 0,0,5", "0,1,5 0,0,5", "0,0,5 1,1,9 1,0,3", "1,0,5 0,1,5"):
            self.assert_at_fault([f"plate a 2 2 3 {stars}", "next 1"], 0)
            self.assert_at_fault(ROWS[:3] + [f"plate z 2 2 3 {stars}", "next 1"], 3)

    def test_no_plate(self):
        for row in NO_PLATES:
            self.assert_at_fault([row, "next 1"], 0)
            self.assert_at_fault(ROWS[:2] + [row] + ROWS[2:], 2)
            self.assert_at_fault(ROWS[:2] + [row], 2)
        for sound in ("plate m 1 1 1", "plate mmmmmmmm 8 8 9", "plate m 1 1 1 0,0,1"):
            self.assert_read([sound, "next 1"])

    def test_the_thirteenth_plate(self):
        self.assert_read(TWELVE + ["next 1"])
        self.assert_at_fault(TWELVE + ["plate m 1 1 9", "next 1"], 12)
        self.assert_at_fault(TWELVE + ["plate m 1 1 9", "plate n 1 1 9", "next 0"], 12)

    def test_a_refused_tie(self):
        for row in NO_TIES:
            self.assert_at_fault(ROWS[:4] + [row] + ROWS[4:], 4)
            self.assert_at_fault(ROWS[:4] + [row], 4)
            self.assert_at_fault(ROWS[:4] + [row, "next 9"], 4)
        self.assert_read(ROWS[:4] + ["tie 5 vega lyra 1 20 -3", "next 9"])

    def test_a_tie_ahead_of_its_plates(self):
        self.assert_at_fault(["tie 1 a b 0 0 0", "plate a 1 1 9", "plate b 1 1 9", "next 2"], 0)
        self.assert_at_fault(["plate a 1 1 9", "tie 1 a b 0 0 0", "plate b 1 1 9", "next 2"], 1)

    def test_numbers_of_ties(self):
        for number in (0, -1, -HUNDRED):
            self.assert_at_fault(TWELVE + [f"tie {number} a b 0 0 0", "next 9"], 12)
        for number in (1, 3, 4, 0, -4):
            self.assert_at_fault(TWELVE + ["tie 4 a b 0 0 0", f"tie {number} a b 0 0 0", "next 9"], 13)
        self.assert_read(TWELVE + ["tie 4 a b 0 0 0", "tie 5 a b 0 0 0", "next 9"])
        self.assert_read(TWELVE + ["tie 1 a b 0 0 0", "next 2"])

    def test_the_forty_first_tie(self):
        ties = [f"tie {number} a b 0 0 0" for number in range(1, 43)]
        self.assert_read(TWELVE + ties[:40] + ["next 41"])
        self.assert_at_fault(TWELVE + ties[:41] + ["next 43"], 52)
        self.assert_at_fault(TWELVE + ties + ["next 43"], 52)

    def test_crossed_and_unlike_are_asked_by_the_ties_ahead(self):
        crossing = ["tie 1 a b 0 0 0", "tie 2 b c 0 0 0", "tie 3 a c 0 1 0", "next 4"]
        self.assert_at_fault(TWELVE + crossing, 14)
        plates = ["plate a 1 1 9", "plate s 1 1 1 0,0,9", "plate t 1 1 1 0,0,8"]
        self.assert_at_fault(plates + ["tie 1 a s 0 5 0", "tie 2 a t 0 5 0", "next 3"], 4)
        self.assert_read(plates + ["tie 1 a s 0 5 0", "tie 2 a t 0 6 0", "next 3"])

    def test_the_next_one(self):
        for number in (6, 5, 2, 1, 0, -1, -HUNDRED):
            self.assert_at_fault(ROWS[:6] + [f"next {number}"], 6)
        for number in (0, -1, -HUNDRED):
            self.assert_at_fault([f"next {number}"], 0)
            self.assert_at_fault(ROWS[:3] + [f"next {number}"], 3)
        for number in (7, 8, HUNDRED):
            self.assert_read(ROWS[:6] + [f"next {number}"])

    def test_two_faults_the_first_row_is_told(self):
        faults = ["nonsense", "plate a 1 1 1", "plate zz 0 0 0", "tie 0 vega lyra 1 20 -3", "tie 1 x y 0 0 0", "next 0"]
        for first in faults:
            for second in faults:
                self.assert_at_fault(ROWS[:4] + [first] + ROWS[4:5] + [second] + ROWS[5:], 4)
                self.assert_at_fault([ROWS[1], first, second], 1)
                self.assert_at_fault(ROWS + [first, second], 7)

    def test_every_row_left_out_doubled_or_in_another_place(self):
        rows = ["plate a 1 1 9", "plate b 1 1 9", "tie 1 a b 0 0 0", "tie 2 b a 0 0 0", "next 3"]
        self.assert_read(rows)
        self.assert_at_fault(rows[1:], 1)
        self.assert_at_fault(rows[:1] + rows[2:], 1)
        self.assert_read(rows[:2] + rows[3:])
        self.assert_read(rows[:3] + rows[4:])
        for at in range(5):
            self.assert_at_fault(rows[:at + 1] + rows[at:], at + 1)
        self.assert_at_fault(rows[::-1], 1)

    def test_the_row_is_a_whole_number(self):
        with self.assertRaises(BadText) as caught:
            read_book(["nonsense"])
        self.assertIs(type(caught.exception.row), int)

    def test_rows_at_fault_are_not_changed(self):
        rows = ROWS[:3] + ["nonsense"] + ROWS[3:]
        held = copy.deepcopy(rows)
        self.assert_at_fault(rows, 3)
        self.assertEqual(rows, held)


if __name__ == "__main__":
    unittest.main()

"""The desk, as [20] and the interface's nightglass/desk.py tell it."""

import random
import unittest

from ledger import Heaven, Ledger, Refusal
from oracle import HUNDRED, OTHER_HUNDRED, expected_layings
from shown import do, shown

from nightglass.book import Book
from nightglass.deeds import deed_text
from nightglass.desk import Desk
from nightglass.papers import book_rows

SKY = [
    "put vega 2 2 3 0,0,5 1,1,9",
    "put lyra 1 1 9",
    "put a 3 1 8 2,0,8",
    "put crook 3 2 4 0,0,4 2,0,5 0,1,6",
    "put crooked 3 2 4 0,0,4 2,0,5 0,1,6",
]
TIES = ["tie vega lyra 1 20 -3", "tie lyra a 4 7 -7"]

# Texts that write nothing the desk knows.
NO_TEXTS = [
    "", " ", "  ", "vega", "help", "Undo", "UNDO", "undo ", " undo", "undo 1", "undo undo", "redo ", "redo 1", "skies ",
    "skies vega", "rows ", "rows 1", "rows vega", "lies", "lies vega", "lies vega lyra a", "lies vega  lyra", "lies  vega lyra",
    "lies vega lyra ", " lies vega lyra", "lies Vega lyra", "lies vega 1", "lies 1 2", "chain", "chain vega",
    "chain vega lyra a", "chain vega lyra ", "chain vega l1", "chain , vega", "ask", "ask vega", "ask vega 1", "ask vega 1 2 3",
    "ask vega 1,2", "ask vega 01 2", "ask vega 1 +2", "ask vega -0 2", "ask vega 1 -", "ask vega x y", "ask 1 2 vega",
    "ask Vega 1 2", "ask vega 1  2", "ask vega 1 2 ", "face", "face ", "face vega lyra", "face Vega", "face 1", "face vega ",
    "layings", "layings crook crooked", "layings crook crooked 3 3", "layings crook crooked 03", "layings crook 3 crooked",
    "layings crook crooked three", "layings crook crooked 3 ", "layings crook crooked -0", "put", "put vega", "put new 1 1",
    "put new 1 1 1 1", "put new 1 1 1 0,0", "put new 1 1 1 ", "put New 1 1 1", "put new 01 1 1", "drop", "drop ", "drop 1",
    "drop vega lyra", "drop Vega", "tie", "tie vega", "tie vega lyra", "tie vega lyra 1", "tie vega lyra 1 20",
    "tie vega lyra 1 20 -3 0", "tie vega lyra 1,20,-3", "tie 1 vega lyra 1 20 -3", "tie vega lyra 1 20 -03", "untie",
    "untie vega", "untie 01", "untie 1 2", "untie -", "untie 1 ", "next 3", "next", "plate new 1 1 1", "chart vega",
    "form vega", "sky vega", "window vega", "names", "ties", "log", "twin", "book", "sure crook crooked 3 0 0", "carries 1",
    "would vega lyra 1 20 -3", "mends vega lyra 1 20 -3", "matches vega lyra", "stars vega", "say undo", "done", "no text",
    "lies\tvega\tlyra", "lies,vega,lyra", "undo\n", "~", "a" * 4000, " " * 4000,
]


def desk_with(texts):
    desk = Desk()
    for text in texts:
        desk.say(text)
    return desk


class DeskCase(unittest.TestCase):
    def assert_says(self, desk, text, *answers):
        told = desk.say(text)
        self.assertEqual(told, list(answers), text)
        self.assertIs(type(told), list)
        self.assertEqual([type(row) for row in told], [str] * len(told))

    def assert_refused(self, desk, text, answer):
        """The desk answers so, and its book shows what it showed."""
        before = shown(desk.book())
        self.assert_says(desk, text, answer)
        self.assertEqual(shown(desk.book()), before)


class DeedTest(DeskCase):
    def test_deeds(self):
        desk = Desk()
        for text in SKY:
            self.assert_says(desk, text, "done")
        self.assert_says(desk, "tie vega lyra 1 20 -3", "tie 1")
        self.assert_says(desk, "tie lyra a 4 7 -7", "tie 2")
        self.assert_says(desk, "tie vega lyra 1 20 -3", "tie 3")
        self.assert_says(desk, "untie 2", "done")
        self.assert_says(desk, "drop lyra", "done")
        self.assert_says(desk, "tie a crook 0 -50 -50", "tie 4")
        book = desk.book()
        self.assertEqual(book.names(), ["a", "crook", "crooked", "vega"])
        self.assertEqual(book.ties(), [(4, "a", "crook", (0, -50, -50))])

    def test_stars_in_any_order(self):
        desk = Desk()
        self.assert_says(desk, "put vega 2 2 3 1,1,9 0,0,5", "done")
        self.assert_says(desk, "rows", "plate vega 2 2 3 0,0,5 1,1,9", "next 1")
        self.assert_says(desk, "undo", "put vega 2 2 3 0,0,5 1,1,9")
        self.assert_says(desk, "redo", "put vega 2 2 3 0,0,5 1,1,9")

    def test_undo_and_redo_tell_the_deed_written(self):
        desk = Desk()
        deeds = SKY[:3] + TIES + ["untie 1", "drop a"]
        for text in deeds:
            desk.say(text)
        for text in reversed(deeds):
            self.assert_says(desk, "undo", text)
        self.assert_refused(desk, "undo", "no deed")
        for text in deeds:
            self.assert_says(desk, "redo", text)
        self.assert_refused(desk, "redo", "no deed")

    def test_a_deed_that_is_let_ends_what_was_taken_back(self):
        desk = desk_with(SKY[:3] + TIES + ["undo"])
        self.assert_refused(desk, "tie vega vega 0 0 0", "self")
        self.assert_refused(desk, "nonsense", "no text")
        self.assert_says(desk, "redo", "tie lyra a 4 7 -7")
        self.assert_says(desk, "undo", "tie lyra a 4 7 -7")
        self.assert_says(desk, "tie lyra a 4 7 -8", "tie 2")
        self.assert_refused(desk, "redo", "no deed")


class QuestionTest(DeskCase):
    def test_lies(self):
        desk = desk_with(SKY + TIES)
        self.assert_says(desk, "lies vega lyra", "1 20 -3")
        self.assert_says(desk, "lies lyra vega", "3 3 20")
        self.assert_says(desk, "lies vega vega", "0 0 0")
        self.assert_says(desk, "lies vega crook", "apart")
        self.assert_says(desk, "lies crook vega", "apart")

    def test_chain(self):
        desk = desk_with(SKY + TIES)
        self.assert_says(desk, "chain vega lyra", "1")
        self.assert_says(desk, "chain vega a", "1 2")
        self.assert_says(desk, "chain a vega", "2 1")
        self.assert_says(desk, "chain vega vega", "same")
        self.assert_says(desk, "chain crook crook", "same")
        self.assert_says(desk, "chain vega crook", "apart")

    def test_ask(self):
        desk = desk_with(SKY + TIES)
        self.assert_says(desk, "ask vega 0 0", "star 5")
        self.assert_says(desk, "ask vega 0 1", "under 3")
        self.assert_says(desk, "ask vega 2 0", "unseen")
        self.assert_says(desk, "ask vega -1 0", "unseen")
        self.assert_says(desk, "ask vega 20 -3", "under 9")
        # lyra's frame: vega's (0, 0) lies at (3, 20), a's (2, 0) at (5, -7).
        self.assert_says(desk, "ask lyra 3 20", "star 5")
        self.assert_says(desk, "ask lyra 5 -7", "star 8")

    def test_skies(self):
        desk = desk_with(SKY + TIES)
        self.assert_says(desk, "skies", "a lyra vega", "crook", "crooked")
        desk.say("untie 2")
        self.assert_says(desk, "skies", "a", "crook", "crooked", "lyra vega")
        self.assert_says(Desk(), "skies")

    def test_face(self):
        desk = desk_with(SKY + TIES)
        self.assert_says(desk, "face vega", "0 0 5", "1 1 9", "27 2 8")
        self.assert_says(desk, "face crook", "0 0 4", "0 1 6", "2 0 5")
        self.assert_says(desk_with(SKY), "face lyra")

    def test_layings(self):
        desk = desk_with(SKY + TIES)
        self.assert_says(desk, "layings crook crooked 3", "0 0 0")
        self.assert_says(desk, "layings crook crooked 4")
        self.assert_says(desk_with(["put s 1 1 5 0,0,5", "put t 1 1 5 0,0,5"]), "layings s t 1",
                         *[f"{turn} 0 0" for turn in range(8)])
        desk.say("put far 1 1 9")
        desk.say("tie far crooked 1 7 -8")
        self.assert_says(desk, "layings far crook 3", "1 7 -8")

    def test_rows(self):
        self.assert_says(Desk(), "rows", "next 1")
        desk = desk_with(SKY[:3] + TIES + ["untie 1"])
        self.assert_says(
            desk, "rows", "plate a 3 1 8 2,0,8", "plate lyra 1 1 9", "plate vega 2 2 3 0,0,5 1,1,9",
            "tie 2 lyra a 4 7 -7", "next 3",
        )

    def test_no_question_changes_the_book(self):
        desk = desk_with(SKY + TIES + ["undo"])
        before = shown(desk.book())
        for text in ("lies vega lyra", "chain vega lyra", "ask vega 0 0", "skies", "face vega", "layings crook crooked 3",
                     "rows", "lies x vega", "layings vega vega 0", "face x", ""):
            desk.say(text)
        self.assertEqual(shown(desk.book()), before)


class RefusedTest(DeskCase):
    def test_every_refusals_word(self):
        desk = desk_with(SKY + TIES)
        for text, answer in (
            ("put abcdefghi 1 1 1", "no name"),
            ("put abcdefghi 0 0 0", "no name"),
            ("put new 0 1 1", "no glass"),
            ("put vega 1 1 10", "no glass"),
            ("put new 1 1 1 0,0,5 0,0,5", "no glass"),
            ("put vega 1 1 1", "taken"),
            ("drop nobody", "no plate"),
            ("drop abcdefghi", "no plate"),
            ("tie vega nobody 0 0 0", "no plate"),
            ("tie nobody nobody 9 0 0", "no plate"),
            ("tie vega vega 9 0 0", "self"),
            ("tie vega lyra 8 20 -3", "no motion"),
            ("tie vega lyra -1 20 -3", "no motion"),
            ("untie 3", "no tie"),
            ("untie 0", "no tie"),
            ("untie -1", "no tie"),
            ("redo", "no deed"),
            ("lies vega nobody", "no plate"),
            ("lies nobody vega", "no plate"),
            ("chain nobody nobody", "no plate"),
            ("chain abcdefghijk vega", "no plate"),
            ("ask nobody 0 0", "no plate"),
            ("face nobody", "no plate"),
            ("layings nobody vega 0", "no plate"),
            ("layings vega nobody 0", "no plate"),
            ("layings vega lyra 3", "one sky"),
            ("layings vega lyra 0", "one sky"),
            ("layings vega vega 1", "one sky"),
            ("layings vega crook 0", "no count"),
            ("layings vega crook -1", "no count"),
            ("nonsense", "no text"),
        ):
            self.assert_refused(desk, text, answer)
        self.assert_refused(Desk(), "undo", "no deed")
        self.assert_refused(Desk(), "redo", "no deed")

    def test_crossed_with_the_chains_numbers(self):
        desk = desk_with(SKY + TIES)
        self.assert_refused(desk, "tie vega lyra 0 0 0", "crossed 1")
        self.assert_refused(desk, "tie vega a 0 0 0", "crossed 1 2")
        self.assert_refused(desk, "tie a vega 0 0 0", "crossed 2 1")

    def test_unlike_with_names_and_place(self):
        desk = desk_with(SKY + TIES)
        self.assert_refused(desk, "tie vega crook 0 0 0", "unlike vega crook 0 0")
        self.assert_refused(desk, "tie crook vega 0 0 0", "unlike crook vega 0 0")
        # crook's (0, 1) comes to vega's (1, 1).
        self.assert_refused(desk, "tie vega crook 0 1 0", "unlike vega crook 1 0")
        # crook's (2, 0) comes to lyra's (5, -7), where a has its (2, 0).
        self.assert_refused(desk, "tie lyra crook 0 3 -7", "unlike a crook 2 0")

    def test_full(self):
        desk = Desk()
        for letter in "abcdefghijkl":
            self.assert_says(desk, f"put {letter} 1 1 9", "done")
        self.assert_refused(desk, "put m 1 1 9", "full")
        self.assert_refused(desk, "put a 1 1 9", "taken")
        for number in range(1, 41):
            self.assert_says(desk, "tie a b 0 0 0", f"tie {number}")
        self.assert_refused(desk, "tie a b 0 0 0", "full")
        self.assert_refused(desk, "tie a b 1 0 0", "full")
        self.assert_refused(desk, "tie a b 8 0 0", "no motion")
        self.assert_says(desk, "untie 7", "done")
        self.assert_says(desk, "tie a b 0 0 0", "tie 41")

    def test_texts_that_write_nothing(self):
        desk = desk_with(SKY + TIES + ["undo"])
        for text in NO_TEXTS:
            self.assert_refused(desk, text, "no text")

    def test_a_bad_text_ahead_of_other_refusals(self):
        desk = desk_with(SKY)
        for text in ("ask nobody 0 00", "lies nobody Vega", "layings nobody vega 00", "tie nobody vega 9 0", "drop No"):
            self.assert_refused(desk, text, "no text")


class EdgesTest(DeskCase):
    def test_plates_whose_names_are_words_of_the_desk(self):
        words = ["put", "drop", "tie", "untie", "undo", "redo", "lies", "chain", "ask", "skies", "face", "layings"]
        desk = Desk()
        for word in words:
            self.assert_says(desk, f"put {word} 1 1 9", "done")
        self.assert_says(desk, "skies", *sorted(words))
        for number, word in enumerate(words[1:], 1):
            self.assert_says(desk, f"tie put {word} 0 {number} 0", f"tie {number}")
        self.assert_says(desk, "skies", " ".join(sorted(words)))
        for number, word in enumerate(words[1:], 1):
            self.assert_says(desk, f"lies put {word}", f"0 {number} 0")
            self.assert_says(desk, f"chain {word} put", f"{number}")
            self.assert_says(desk, f"chain {word} {word}", "same")
            self.assert_says(desk, f"ask {word} 0 0", "under 9")
            self.assert_says(desk, f"face {word}")
            self.assert_says(desk, f"layings {word} put 1", "one sky")
        for word in words:
            self.assert_says(desk, f"drop {word}", "done")
        self.assert_says(desk, "undo", "drop layings")
        for word in ("rows", "same", "apart", "done", "full", "next", "plate", "star", "unseen"):
            self.assert_says(desk, f"put {word} 1 1 9", "done")
            self.assert_says(desk, "undo", f"put {word} 1 1 9")

    def test_numbers_of_a_hundred_and_of_a_hundred_and_one_figures(self):
        beyond = "1" + "0" * 100
        desk = desk_with(SKY)
        for text in (f"put new 1 1 {beyond}", f"put new 1 1 1 0,0,{beyond}", f"tie vega a 0 {beyond} 0",
                     f"tie vega a 0 0 -{beyond}", f"untie {beyond}", f"ask vega {beyond} 0", f"ask vega 0 -{beyond}",
                     f"layings crook crooked {beyond}"):
            self.assert_refused(desk, text, "no text")
        self.assert_refused(desk, f"put new 1 1 {HUNDRED}", "no glass")
        self.assert_refused(desk, f"untie {HUNDRED}", "no tie")
        self.assert_refused(desk, f"untie -{HUNDRED}", "no tie")
        self.assert_refused(desk, f"tie vega a {HUNDRED} 0 0", "no motion")
        self.assert_refused(desk, f"ask vega {HUNDRED} -{HUNDRED}", "unseen")
        self.assert_says(desk, f"layings crook crooked {HUNDRED}")
        self.assert_refused(desk, f"layings crook crooked -{HUNDRED}", "no count")
        self.assert_says(desk, f"tie vega a 0 {HUNDRED} -{OTHER_HUNDRED}", "tie 1")
        self.assert_says(desk, "lies vega a", f"0 {HUNDRED} -{OTHER_HUNDRED}")
        self.assert_says(desk, f"ask a -{HUNDRED} {OTHER_HUNDRED}", "star 5")
        # What is told may have more figures than what is handed in.
        self.assert_says(desk, f"tie a lyra 0 {HUNDRED} 0", "tie 2")
        self.assert_says(desk, "lies vega lyra", f"0 {2 * HUNDRED} -{OTHER_HUNDRED}")

    def test_a_book_handed_out_and_changed_changes_nothing(self):
        desk = desk_with(SKY + TIES + ["undo"])
        before = shown(desk.book())
        book = desk.book()
        self.assertIs(type(book), Book)
        book.drop("vega")
        book.undo()
        book.undo()
        book.put("new", 1, 1, 1, [])
        self.assertEqual(shown(desk.book()), before)
        self.assert_says(desk, "redo", "tie lyra a 4 7 -7")
        self.assertEqual(len(book.names()), 6)

    def test_the_book_handed_out_stays_as_it_was(self):
        desk = desk_with(SKY + TIES)
        book = desk.book()
        before = shown(book)
        desk.say("drop vega")
        desk.say("undo")
        desk.say("undo")
        self.assertEqual(shown(book), before)

    def test_a_told_list_changed_changes_nothing(self):
        desk = desk_with(SKY + TIES)
        for text in ("skies", "face vega", "rows", "lies vega lyra", "chain vega vega", "ask vega 0 0", "nonsense",
                     "layings crook crooked 3", "untie 77"):
            first = desk.say(text)
            held = list(first)
            first.append("more")
            first[0] = ""
            self.assert_says(desk, text, *held)

    def test_two_desks_used_by_turns(self):
        one, other = Desk(), Desk()
        for text in SKY + TIES:
            self.assertEqual(one.say(text), other.say(text))
            self.assertEqual(shown(one.book()), shown(other.book()))
        held = shown(other.book())
        one.say("drop vega")
        one.say("undo")
        one.say("undo")
        one.say("put alone 1 1 1")
        self.assertEqual(shown(other.book()), held)
        self.assert_says(Desk(), "rows", "next 1")

    def test_a_desks_book_is_without_plates_at_first(self):
        self.assertEqual(shown(Desk().book()), shown(Book()))


WORDS = {
    "BadName": "no name", "BadPlate": "no glass", "BadMotion": "no motion", "NoPlate": "no plate", "NoTie": "no tie",
    "NoDeed": "no deed", "Taken": "taken", "Full": "full", "SelfTie": "self",
}


def numbers(row):
    return " ".join([str(number) for number in row])


class ByLotTest(DeskCase):
    """Texts drawn by lot, each answer held against the ledger."""

    def expected_deed(self, ledger, deed):
        try:
            told = ledger.do(deed)
        except Refusal as refusal:
            if refusal.name == "Crossed":
                return [f"crossed {numbers(refusal.fields['by'])}"]
            if refusal.name == "Unlike":
                here, there, place = refusal.fields.values()
                return [f"unlike {here} {there} {numbers(place)}"]
            return [WORDS[refusal.name]]
        return ["done"] if told is None else [f"tie {told}"]

    def expected_step(self, ledger, word):
        try:
            return [deed_text(getattr(ledger, word)())]
        except Refusal:
            return ["no deed"]

    def expected_pair(self, ledger, one, other):
        lie, chain = ledger.lies(one, other), ledger.chain(one, other)
        if lie is None:
            return ["apart"], ["apart"]
        return [numbers(lie)], [numbers(chain)] if chain else ["same"]

    def test_by_lot(self):
        for seed in range(25):
            rng = random.Random(seed)
            heaven = Heaven(rng, far=3, stars=40, brights=(7, 8, 9))
            desk, ledger, book = Desk(), Ledger(), Book()
            for times in range(30):
                names = ledger.names()
                free = [name for name in "abcde" if name not in names]
                word = rng.choice(["put", "put", "tie", "tie", "tie", "untie", "drop", "undo", "redo"])
                if word in ("undo", "redo"):
                    self.assertEqual(desk.say(word), self.expected_step(ledger, word))
                else:
                    deed = ("drop", rng.choice("abcdef"))
                    if word == "put" and free:
                        deed = ("put", *heaven.cut(free[0], 3))
                    elif word == "tie" and len(names) > 1 and len(ledger.ties()) < 7:
                        one, other = rng.sample(names, 2)
                        turn, right, up = heaven.true_motion(one, other)
                        deed = ("tie", one, other, (turn, right, up + rng.choice([0, 0, 0, 1])))
                    elif word == "untie":
                        deed = ("untie", rng.randint(0, ledger.coming()))
                    self.assertEqual(desk.say(deed_text(deed)), self.expected_deed(ledger, deed), (seed, deed))
                self.assert_answers(rng, desk, ledger)
            for deed in ledger.deeds:
                do(book, deed)
            self.assertEqual(book_rows(desk.book()), book_rows(book))

    def assert_answers(self, rng, desk, ledger):
        self.assert_says(desk, "rows", *ledger.rows())
        self.assert_says(desk, "skies", *[" ".join(sky) for sky in ledger.skies()])
        if not ledger.names():
            return
        one, other = rng.choices(ledger.names(), k=2)
        lies, chain = self.expected_pair(ledger, one, other)
        self.assert_says(desk, f"lies {one} {other}", *lies)
        self.assert_says(desk, f"chain {one} {other}", *chain)
        self.assert_says(desk, f"face {one}", *[numbers(star) for star in ledger.face(one)])
        place = (rng.randint(-4, 6), rng.randint(-4, 6))
        word, number = ledger.ask(one, place)
        self.assert_says(desk, f"ask {one} {numbers(place)}", "unseen" if word == "unseen" else f"{word} {number}")
        if lies == ["apart"]:
            expected = expected_layings(ledger.lays(one), ledger.lays(other), 1)
            self.assert_says(desk, f"layings {one} {other} 1", *[numbers(motion) for motion in expected])
        else:
            self.assert_says(desk, f"layings {one} {other} 1", "one sky")


if __name__ == "__main__":
    unittest.main()

"""Deeds as texts, as [18] and the interface's nightglass/deeds.py tell them."""

import copy
import random
import unittest

from oracle import HUNDRED, OTHER_HUNDRED, STILL

from nightglass.deeds import deed_text, read_deed
from nightglass.errors import BadText

HUNDRED_AND_ONE = "1" + "0" * 100

PAIRS = [
    (("put", "vega", 2, 2, 3, ()), "put vega 2 2 3"),
    (("put", "vega", 2, 2, 3, ((0, 0, 5),)), "put vega 2 2 3 0,0,5"),
    (("put", "a", 8, 7, 1, ((3, 4, 5), (0, 0, 9), (0, 1, 2))), "put a 8 7 1 3,4,5 0,0,9 0,1,2"),
    (("put", "a", -1, 0, -22, ((-3, 4, -5), (-3, 4, -5))), "put a -1 0 -22 -3,4,-5 -3,4,-5"),
    (("put", "put", HUNDRED, -HUNDRED, OTHER_HUNDRED, ((HUNDRED, -HUNDRED, 0),)),
     f"put put {HUNDRED} -{HUNDRED} {OTHER_HUNDRED} {HUNDRED},-{HUNDRED},0"),
    (("drop", "a"), "drop a"),
    (("drop", "drop"), "drop drop"),
    (("drop", "abcdefghijklmnopqrstuvwxyz" * 9), "drop " + "abcdefghijklmnopqrstuvwxyz" * 9),
    (("tie", "vega", "lyra", (1, 2, 3)), "tie vega lyra 1 2 3"),
    (("tie", "tie", "tie", (9, -10, 0)), "tie tie tie 9 -10 0"),
    (("tie", "a", "b", (-7, HUNDRED, -HUNDRED)), f"tie a b -7 {HUNDRED} -{HUNDRED}"),
    (("untie", 0), "untie 0"),
    (("untie", 7), "untie 7"),
    (("untie", -1), "untie -1"),
    (("untie", HUNDRED), "untie " + "9" * 100),
    (("untie", -HUNDRED), "untie -" + "9" * 100),
]

# Each of these is no number, wherever a number is to stand.
NO_NUMBERS = [
    "", "-", "--1", "-0", "+1", "+0", "01", "00", "-01", "-00", "007", "1_0", "1-", "1-2", "1.0", "1e3", "0x1", "a",
    "1a", "a1", "/", ":", "1,", ",1", "1;", "'1'", HUNDRED_AND_ONE, "-" + HUNDRED_AND_ONE, "0" * 101,
    "0" + "9" * 99, "9" * 300, "_1", "1_", "\t1", "1\n", "\n", "\u0661", "\u00b2", "None", "True",
]

# Each of these is no name, wherever a name is to stand.
NO_NAMES = [
    "", "A", "Vega", "veGa", "vegA", "a1", "1a", "1", "a-b", "-", "a_b", "_", "a,b", "a.", "`", "{", "a{", "@", "a\t",
    "\n", "a\n", "\u00e9", "\u00df", "a'", "-a",
]

# Texts with one place for a number, and with one for a name.
NUMBER_PLACES = [
    "put vega {} 2 3", "put vega 2 {} 3", "put vega 2 2 {}", "put vega {} 2 3 0,0,5", "put vega 2 2 3 {},0,5",
    "put vega 2 2 3 0,{},5", "put vega 2 2 3 0,0,{}", "put vega 2 2 3 1,1,5 0,0,{} 1,0,4",
    "tie vega lyra {} 2 3", "tie vega lyra 1 {} 3", "tie vega lyra 1 2 {}", "untie {}",
]
NAME_PLACES = [
    "put {} 2 2 3", "put {} 2 2 3 0,0,5", "drop {}", "tie {} lyra 1 2 3", "tie vega {} 1 2 3",
]


class DeedCase(unittest.TestCase):
    def assert_refused(self, text):
        with self.assertRaises(BadText, msg=repr(text)) as caught:
            read_deed(text)
        self.assertEqual(caught.exception.row, 0, text)


class WrittenTest(DeedCase):
    def test_each_deed_written(self):
        for deed, text in PAIRS:
            told = deed_text(deed)
            self.assertEqual(told, text)
            self.assertIs(type(told), str)

    def test_stars_are_written_in_the_order_that_they_have(self):
        self.assertEqual(deed_text(("put", "a", 3, 3, 1, ((2, 2, 9), (0, 0, 1)))), "put a 3 3 1 2,2,9 0,0,1")
        self.assertEqual(deed_text(("put", "a", 3, 3, 1, ((0, 0, 1), (2, 2, 9)))), "put a 3 3 1 0,0,1 2,2,9")

    def test_nothing_handed_in_is_changed(self):
        for deed, text in PAIRS:
            before = copy.deepcopy(deed)
            deed_text(deed)
            self.assertEqual(deed, before)


class ReadTest(DeedCase):
    def test_each_deed_read(self):
        for deed, text in PAIRS:
            told = read_deed(text)
            self.assertEqual(told, deed)
            self.assertIs(type(told), tuple)
            for thing, expected in zip(told, deed):
                self.assertIs(type(thing), type(expected))

    def test_stars_are_a_tuple_of_tuples_in_the_texts_order(self):
        stars = read_deed("put a 3 3 1 2,2,9 0,0,1 1,0,4")[5]
        self.assertEqual(stars, ((2, 2, 9), (0, 0, 1), (1, 0, 4)))
        self.assertEqual([type(star) for star in stars], [tuple] * 3)
        self.assertEqual(read_deed("put a 3 3 1")[5], ())

    def test_a_motion_is_a_tuple(self):
        self.assertIs(type(read_deed("tie a b 1 2 3")[3]), tuple)

    def test_no_bound_of_plates_and_ties_is_asked(self):
        long_name = "z" * 30
        self.assertEqual(read_deed(f"put {long_name} 0 -9 99"), ("put", long_name, 0, -9, 99, ()))
        many = tuple([(0, 0, bright) for bright in range(40)])
        self.assertEqual(read_deed(deed_text(("put", "a", 1, 1, 1, many)))[5], many)
        self.assertEqual(read_deed(f"tie {long_name} {long_name} 8 0 0"), ("tie", long_name, long_name, (8, 0, 0)))
        self.assertEqual(read_deed("untie -5"), ("untie", -5))

    def test_texts_of_four_thousand_signs(self):
        name = "n" * (4000 - len("drop "))
        self.assertEqual(read_deed("drop " + name), ("drop", name))
        stars = ((1, 2, 3),) * 660
        text = deed_text(("put", "a", 1, 1, 1, stars))
        self.assertEqual(read_deed(text), ("put", "a", 1, 1, 1, stars))

    def test_numbers_by_their_count_of_figures(self):
        for count in (1, 2, 99, 100):
            for sign in ("", "-"):
                word = sign + "7" * count
                for place in NUMBER_PLACES:
                    text = place.format(word)
                    self.assertEqual(deed_text(read_deed(text)), text)
        for place in NUMBER_PLACES:
            self.assert_refused(place.format("7" * 101))
            self.assert_refused(place.format("-" + "7" * 101))

    def test_every_number_between(self):
        for number in list(range(-130, 131)) + [10 ** 99, -(10 ** 99), 10 ** 50]:
            self.assertEqual(read_deed(f"untie {number}"), ("untie", number))
            self.assertEqual(deed_text(("untie", number)), f"untie {number}")

    def test_written_and_read_back_by_lot(self):
        rng = random.Random(18)
        for turn in range(300):
            name, other = ["".join(rng.choices("abxyz", k=rng.randint(1, 12))) for side in range(2)]
            numbers = [rng.choice([-1, 1]) * rng.randint(0, 10 ** rng.randint(0, 100) - 1) for times in range(12)]
            stars = tuple([tuple(numbers[at:at + 3]) for at in range(3, 12, 3)])[:rng.randint(0, 3)]
            for deed in (
                ("put", name, *numbers[:3], stars),
                ("drop", name),
                ("tie", name, other, tuple(numbers[:3])),
                ("untie", numbers[0]),
            ):
                self.assertEqual(read_deed(deed_text(deed)), deed)


class RefusedTest(DeedCase):
    def test_no_words(self):
        for text in ("", " ", "  ", "\n", "-", ",", "0", "a", "7 7"):
            self.assert_refused(text)

    def test_another_first_word(self):
        for word in ("Put", "PUT", "puts", "pu", "", "plate", "next", "undo", "redo", "lies", "drop,", "vega", "0"):
            for deed, text in PAIRS:
                self.assert_refused(word + text[text.index(" "):])
            self.assert_refused(word)

    def test_first_words_of_other_deeds(self):
        self.assert_refused("drop vega 2 2 3")
        self.assert_refused("put vega")
        self.assert_refused("tie 7")
        self.assert_refused("untie vega")
        self.assert_refused("drop 7")
        self.assert_refused("tie vega 2 2 3")
        self.assert_refused("untie vega lyra 1 2 3")

    def test_a_word_left_out(self):
        for deed, text in PAIRS:
            words = text.split(" ")
            # A plate's stars may be as many as they like.
            for at in range(len(words) if words[0] != "put" else 5):
                self.assert_refused(" ".join(words[:at] + words[at + 1:]))

    def test_a_word_doubled(self):
        for deed, text in PAIRS:
            words = text.split(" ")
            for at in range(len(words) if words[0] != "put" else 5):
                self.assert_refused(" ".join(words[:at + 1] + words[at:]))

    def test_a_word_empty_so_that_two_blanks_or_one_at_an_end_stand(self):
        for deed, text in PAIRS:
            words = text.split(" ")
            for at in range(len(words) + 1):
                self.assert_refused(" ".join(words[:at] + [""] + words[at:]))
            for at in range(len(words)):
                self.assert_refused(" ".join(words[:at] + [""] + words[at + 1:]))

    def test_no_name_where_a_name_is_to_stand(self):
        for place in NAME_PLACES:
            self.assertEqual(deed_text(read_deed(place.format("vega"))), place.format("vega"))
            for word in NO_NAMES:
                self.assert_refused(place.format(word))

    def test_no_number_where_a_number_is_to_stand(self):
        for place in NUMBER_PLACES:
            self.assertEqual(deed_text(read_deed(place.format("1"))), place.format("1"))
            for word in NO_NUMBERS:
                self.assert_refused(place.format(word))

    def test_stars_that_are_none(self):
        for star in ("0", "0,0", "0,0,5,5", "0,0,5,", ",0,0,5", "0,,5", "0,0,", ",,", ",", "0, 0,5", "0;0;5", "(0,0,5)",
                     "0,0,5 ", "0.0,5", "a,b,c", "0,0,5,5,5,5", "star"):
            self.assert_refused("put vega 2 2 3 " + star)
            self.assert_refused("put vega 2 2 3 1,1,5 " + star)
            self.assert_refused("put vega 2 2 3 " + star + " 1,1,5")

    def test_another_sign_than_the_blank_between(self):
        for sign in ("\t", "\n", ",", "_", "\u00a0", "  "):
            for deed, text in PAIRS:
                self.assert_refused(text.replace(" ", sign))
                self.assert_refused(text.replace(" ", sign, 1))

    def test_each_read_text_is_the_one_that_is_written(self):
        # Of whatever is read, no other text than the written one is read to it.
        rng = random.Random(81)
        signs = " ,-0129abtpuz"
        for deed, text in PAIRS[:12]:
            for times in range(300):
                at = rng.randrange(len(text) + 1)
                changed = text[:at] + rng.choice(["", rng.choice(signs)]) + text[at + rng.randint(0, 1):]
                try:
                    told = read_deed(changed)
                except BadText as refusal:
                    self.assertEqual(refusal.row, 0)
                else:
                    self.assertEqual(deed_text(told), changed)

    def test_still_is_written_by_three_noughts(self):
        self.assertEqual(deed_text(("tie", "a", "b", STILL)), "tie a b 0 0 0")


if __name__ == "__main__":
    unittest.main()

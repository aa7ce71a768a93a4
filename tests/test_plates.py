"""Plates, as [4] and the interface's nightglass/plates.py tell them."""

import itertools
import random
import unittest

from oracle import HUNDRED, UNSEEN, glass_says, random_glass

from nightglass.errors import BadName, BadPlate
from nightglass.plates import Plate

FULL_STARS = [(x, y, 5) for x in range(4) for y in range(2)]

BAD_NAMES = [
    "", "abcdefghi", "a" * 4000, "A", "aB", "Vega", "a1", "1", "a b", " a", "a ", "a_b", "a-b", ".", "~",
    "`", "{", "a{", "`a", "@", "Z", "0", "9a", "abcdefgH", "abcdefg ",
]
BAD_SIZES = [0, 9, 10, -1, -8, 64, HUNDRED, -HUNDRED]
BAD_LIMITS = [0, 10, 11, -1, -9, HUNDRED, -HUNDRED]


class PlateCase(unittest.TestCase):
    def refuse(self, error, *handed):
        with self.assertRaises(error) as taken:
            Plate(*handed)
        self.assertIs(type(taken.exception), error, handed)


class NameTest(PlateCase):
    def test_one_to_eight_small_letters(self):
        for name in ["a", "z", "m", "az", "vega", "zzzzzzzz", "abcdefgh", "stuvwxyz", "ijklmnop", "qr"]:
            self.assertEqual(Plate(name, 1, 1, 1, []).name, name)

    def test_each_letter_is_one(self):
        for letter in "abcdefghijklmnopqrstuvwxyz":
            self.assertEqual(Plate(letter, 1, 1, 1, []).name, letter)

    def test_each_other_sign_is_none(self):
        for sign in map(chr, range(32, 127)):
            if not "a" <= sign <= "z":
                for name in (sign, sign + "a", "a" + sign, "abc" + sign + "def", "abcdefg" + sign):
                    self.refuse(BadName, name, 1, 1, 1, [])

    def test_lengths(self):
        for length in range(0, 12):
            if 1 <= length <= 8:
                self.assertEqual(Plate("q" * length, 1, 1, 1, []).name, "q" * length)
            else:
                self.refuse(BadName, "q" * length, 1, 1, 1, [])

    def test_bad_names(self):
        for name in BAD_NAMES:
            self.refuse(BadName, name, 3, 3, 3, [(0, 0, 3)])

    def test_bad_name_comes_ahead_of_any_other_fault(self):
        for name in BAD_NAMES:
            self.refuse(BadName, name, 0, 3, 3, [])
            self.refuse(BadName, name, 3, 9, 3, [])
            self.refuse(BadName, name, 3, 3, 10, [])
            self.refuse(BadName, name, 3, 3, 3, [(3, 0, 3)])
            self.refuse(BadName, name, 3, 3, 3, [(0, 0, 2)])
            self.refuse(BadName, name, 3, 3, 3, [(0, 0, 3), (0, 0, 4)])
            self.refuse(BadName, name, 8, 8, 3, [(x, 0, 3) for x in range(8)] + [(0, 1, 3)])


class SizesTest(PlateCase):
    def test_every_window_and_limit(self):
        for width, height in itertools.product(range(1, 9), repeat=2):
            for limit in range(1, 10):
                plate = Plate("lyra", width, height, limit, [(width - 1, height - 1, limit)])
                self.assertEqual((plate.name, plate.width, plate.height, plate.limit), ("lyra", width, height, limit))
                self.assertEqual(plate.stars(), [(width - 1, height - 1, limit)])

    def test_bad_sides(self):
        for size in BAD_SIZES:
            self.refuse(BadPlate, "lyra", size, 4, 3, [])
            self.refuse(BadPlate, "lyra", 4, size, 3, [])
            self.refuse(BadPlate, "lyra", size, size, 3, [])
            self.refuse(BadPlate, "lyra", size, 8, 3, [(0, 0, 3)])
            self.refuse(BadPlate, "lyra", 8, size, 3, [(0, 0, 3)])

    def test_bad_limits(self):
        for limit in BAD_LIMITS:
            self.refuse(BadPlate, "lyra", 4, 4, limit, [])
            self.refuse(BadPlate, "lyra", 4, 4, limit, [(0, 0, 9)])
            self.refuse(BadPlate, "lyra", 4, 4, limit, [(0, 0, limit)])


class StarsTest(PlateCase):
    def test_beyond_each_rim(self):
        for width, height in [(1, 1), (1, 8), (8, 1), (3, 5), (5, 3), (8, 8)]:
            beyond = [(-1, 0), (0, -1), (width, 0), (0, height), (-1, height - 1), (width - 1, -1),
                      (width, height - 1), (width - 1, height), (-1, -1), (width, height),
                      (HUNDRED, 0), (0, -HUNDRED)]
            for x, y in beyond:
                self.refuse(BadPlate, "a", width, height, 1, [(x, y, 5)])
                self.refuse(BadPlate, "a", width, height, 1, [(0, 0, 5), (x, y, 5)])
                self.refuse(BadPlate, "a", width, height, 1, [(x, y, 5), (0, 0, 5)])

    def test_corners_of_an_oblong_window_are_not_mistaken(self):
        self.assertEqual(Plate("a", 7, 2, 1, [(6, 1, 4)]).stars(), [(6, 1, 4)])
        self.refuse(BadPlate, "a", 7, 2, 1, [(1, 6, 4)])
        self.refuse(BadPlate, "a", 2, 7, 1, [(6, 1, 4)])

    def test_brightness_from_the_limit_to_nine(self):
        for limit in range(1, 10):
            for bright in list(range(-2, 13)) + [HUNDRED, -HUNDRED]:
                if limit <= bright <= 9:
                    self.assertEqual(Plate("a", 2, 2, limit, [(1, 1, bright)]).says((1, 1)), ("star", bright))
                else:
                    self.refuse(BadPlate, "a", 2, 2, limit, [(1, 1, bright)])
                    self.refuse(BadPlate, "a", 2, 2, limit, [(0, 0, 9), (1, 1, bright), (1, 0, 9)])

    def test_two_at_one_place(self):
        self.refuse(BadPlate, "a", 3, 3, 1, [(1, 1, 4), (1, 1, 4)])
        self.refuse(BadPlate, "a", 3, 3, 1, [(1, 1, 4), (1, 1, 5)])
        self.refuse(BadPlate, "a", 3, 3, 1, [(1, 1, 5), (0, 2, 4), (2, 0, 4), (1, 1, 4)])
        self.assertEqual(Plate("a", 3, 3, 1, [(1, 2, 4), (2, 1, 4)]).stars(), [(1, 2, 4), (2, 1, 4)])

    def test_eight_and_nine(self):
        self.assertEqual(Plate("a", 4, 2, 5, FULL_STARS).stars(), FULL_STARS)
        places = [(x, y) for x in range(8) for y in range(8)]
        for many in range(0, 9):
            self.assertEqual(len(Plate("a", 8, 8, 1, [(x, y, 7) for x, y in places[:many]]).stars()), many)
        for many in (9, 10, 20, 64):
            self.refuse(BadPlate, "a", 8, 8, 1, [(x, y, 7) for x, y in places[:many]])
        self.refuse(BadPlate, "a", 4, 2, 5, FULL_STARS + [(0, 0, 5)])

    def test_told_in_order(self):
        stars = [(0, 0, 9), (0, 2, 1), (1, 0, 4), (2, 2, 3)]
        for handed in itertools.permutations(stars):
            self.assertEqual(Plate("a", 3, 3, 1, list(handed)).stars(), stars)
        shuffled = FULL_STARS[::-1]
        self.assertEqual(Plate("a", 4, 2, 5, shuffled).stars(), FULL_STARS)

    def test_none(self):
        self.assertEqual(Plate("a", 3, 3, 1, []).stars(), [])


class WindowTest(PlateCase):
    def assert_window(self, glass):
        name, width, height, limit, stars = glass
        plate = Plate(name, width, height, limit, list(stars))
        for x in range(-2, 11):
            for y in range(-2, 11):
                self.assertIs(plate.holds((x, y)), 0 <= x <= width - 1 and 0 <= y <= height - 1, (glass, x, y))
                told = plate.says((x, y))
                self.assertEqual(told, glass_says(glass, (x, y)), (glass, x, y))
                self.assertIs(type(told), tuple)

    def test_every_window(self):
        for width, height in itertools.product(range(1, 9), repeat=2):
            self.assert_window(("a", width, height, 3, []))
            self.assert_window(("a", width, height, 9, [(width - 1, 0, 9)]))

    def test_windows_with_many_stars(self):
        rng = random.Random(4)
        for step in range(60):
            self.assert_window(random_glass(rng, "lyra"))

    def test_far_off(self):
        plate = Plate("a", 8, 8, 2, FULL_STARS)
        for far in (8, 9, 100, HUNDRED, -1, -2, -HUNDRED):
            for near in (0, 3, 7, far):
                for place in ((far, near), (near, far)):
                    self.assertIs(plate.holds(place), False)
                    self.assertEqual(plate.says(place), UNSEEN)

    def test_written_ones(self):
        plate = Plate("vega", 3, 2, 4, [(2, 1, 9), (0, 0, 4)])
        self.assertEqual(plate.says((0, 0)), ("star", 4))
        self.assertEqual(plate.says((2, 1)), ("star", 9))
        self.assertEqual(plate.says((2, 0)), ("under", 4))
        self.assertEqual(plate.says((1, 2)), UNSEEN)
        self.assertEqual(plate.says((3, 1)), UNSEEN)


class KeptTest(PlateCase):
    def test_the_list_handed_in_stays_and_is_not_kept(self):
        handed = [(2, 1, 9), (0, 0, 4)]
        plate = Plate("vega", 3, 2, 4, handed)
        plate.stars()
        plate.says((0, 0))
        self.assertEqual(handed, [(2, 1, 9), (0, 0, 4)])
        handed[0] = (1, 1, 5)
        handed.append((1, 0, 6))
        self.assertEqual(plate.stars(), [(0, 0, 4), (2, 1, 9)])
        self.assertEqual(plate.says((1, 1)), ("under", 4))
        handed.clear()
        self.assertEqual(plate.says((2, 1)), ("star", 9))

    def test_a_told_list_changed_changes_nothing(self):
        plate = Plate("vega", 3, 2, 4, [(2, 1, 9), (0, 0, 4)])
        told = plate.stars()
        self.assertIs(type(told), list)
        self.assertIsNot(told, plate.stars())
        told.append((1, 1, 5))
        told[0] = (0, 1, 5)
        self.assertEqual(plate.stars(), [(0, 0, 4), (2, 1, 9)])
        self.assertEqual(plate.says((1, 1)), ("under", 4))
        self.assertEqual(plate.says((0, 0)), ("star", 4))

    def test_a_refused_list_stays_as_it_was(self):
        handed = [(2, 1, 9), (0, 0, 4), (5, 5, 5)]
        self.refuse(BadPlate, "vega", 3, 2, 4, handed)
        self.refuse(BadName, "VEGA", 3, 2, 4, handed)
        self.assertEqual(handed, [(2, 1, 9), (0, 0, 4), (5, 5, 5)])

    def test_plates_do_not_share_their_stars(self):
        stars = [(0, 0, 4)]
        one = Plate("a", 2, 2, 1, stars)
        other = Plate("b", 2, 2, 1, stars)
        one.stars().append((1, 1, 9))
        self.assertEqual(other.stars(), [(0, 0, 4)])


if __name__ == "__main__":
    unittest.main()

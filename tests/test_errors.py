"""The refusals, as the interface's nightglass/errors.py tells them."""

import unittest

from nightglass import errors
from nightglass.errors import BadText, Crossed, GlassError, Unlike

PLAIN = [
    "BadName", "BadPlate", "BadMotion", "BadChain", "BadCount", "Denied", "NoPlate",
    "NoTie", "NoLaying", "NoDeed", "Taken", "Full", "SelfTie", "SameSky",
]
WITH_FIELDS = ["BadText", "Crossed", "Unlike"]
REFUSALS = [getattr(errors, name) for name in PLAIN + WITH_FIELDS]


class ClassesTest(unittest.TestCase):
    def test_there_are_seventeen(self):
        self.assertEqual(len(set(REFUSALS)), 17)

    def test_glass_error_is_straight_under_value_error(self):
        self.assertEqual(GlassError.__bases__, (ValueError,))

    def test_each_is_straight_under_glass_error(self):
        for refusal in REFUSALS:
            with self.subTest(refusal=refusal.__name__):
                self.assertEqual(refusal.__bases__, (GlassError,))

    def test_none_is_under_another(self):
        for one in REFUSALS:
            for other in REFUSALS:
                if one is not other:
                    self.assertFalse(issubclass(one, other), (one, other))

    def test_plain_ones_are_made_with_words_or_without(self):
        for name in PLAIN:
            refusal = getattr(errors, name)
            with self.subTest(refusal=name):
                self.assertIsInstance(refusal(), GlassError)
                self.assertEqual(str(refusal("some words")), "some words")

    def test_each_is_taken_as_any_refusal(self):
        made = [getattr(errors, name)() for name in PLAIN]
        made += [BadText(0), Crossed([1]), Unlike("a", "b", (0, 0))]
        for error in made:
            with self.subTest(refusal=error.__class__.__name__):
                with self.assertRaises(GlassError):
                    raise error


class FieldsTest(unittest.TestCase):
    def test_bad_text_has_its_row(self):
        for row in (0, 1, 52, 10 ** 99):
            self.assertEqual(BadText(row).row, row)
        self.assertEqual(BadText(row=7).row, 7)

    def test_crossed_has_its_chain(self):
        for chain in ([], [3], [4, 1, 4, 2]):
            error = Crossed(chain)
            self.assertEqual(error.by, chain)
            self.assertIs(type(error.by), list)
        self.assertEqual(Crossed(by=[2]).by, [2])

    def test_crossed_does_not_keep_the_list_handed_in(self):
        chain = [1, 2]
        error = Crossed(chain)
        words = str(error)
        chain.append(3)
        self.assertEqual(error.by, [1, 2])
        self.assertEqual(str(error), words)
        error.by.append(9)
        self.assertEqual(chain, [1, 2, 3])

    def test_unlike_has_both_plates_and_the_place(self):
        error = Unlike("vega", "lyra", (3, 7))
        self.assertEqual((error.here, error.there, error.place), ("vega", "lyra", (3, 7)))
        error = Unlike(place=(0, 1), there="b", here="a")
        self.assertEqual((error.here, error.there, error.place), ("a", "b", (0, 1)))

    def test_fields_are_there_where_the_error_is_taken(self):
        with self.assertRaises(BadText) as text:
            raise BadText(4)
        self.assertEqual(text.exception.row, 4)
        with self.assertRaises(Crossed) as crossed:
            raise Crossed([5, 6])
        self.assertEqual(crossed.exception.by, [5, 6])
        with self.assertRaises(Unlike) as unlike:
            raise Unlike("a", "b", (1, 2))
        self.assertEqual(unlike.exception.place, (1, 2))


if __name__ == "__main__":
    unittest.main()

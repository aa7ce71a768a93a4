"""Layings, as [11], [12] and the interface's nightglass/layings.py tell them."""

import itertools
import random
import unittest

from oracle import (
    BY_LEFT, HUNDRED, STILL, TURNS, UNSEEN, all_layings, expected_chart, expected_meetings, expected_sure,
    expected_unlike, frame_places, laid, led, led_lays, left_by_all, put_together, random_glass, random_motion,
    star_places, voices,
)

from nightglass.errors import BadCount, NoLaying
from nightglass.layings import layings, meetings, sure

# One star, and nothing else to be seen.
SPARK = ("spark", 1, 1, 5, [(0, 0, 5)])
DIM = ("dim", 1, 1, 5, [])
# Three stars of three brightnesses that no motion leads onto themselves.
CROOK = ("crook", 3, 2, 4, [(0, 0, 4), (2, 0, 5), (0, 1, 6)])
EVEN = ("even", 3, 1, 7, [(0, 0, 7), (2, 0, 7)])

BAD_COUNTS = [0, -1, -2, -HUNDRED]


def lists_without_refused_places(seed, many, names="abcde", brights=(8, 9)):
    """Pairs of lists of lays, of small windows near one another; names may be in both."""
    rng = random.Random(seed)
    told = []
    while len(told) < many:
        pair = [
            [
                (random_glass(rng, name, 3, 3, brights), random_motion(rng, 2))
                for name in rng.sample(names, rng.choice([1, 1, 2, 3]))
            ]
            for side in range(2)
        ]
        if all(expected_chart(lays) is not None and star_places(lays) for lays in pair):
            told.append(pair)
    return told


class MeetingsTest(unittest.TestCase):
    def test_no_plates(self):
        spark = laid([(SPARK, STILL)])
        for motion in (STILL, (3, 5, 5)):
            self.assertEqual(meetings([], [], motion), 0)
            self.assertEqual(meetings(spark, [], motion), 0)
            self.assertEqual(meetings([], spark, motion), 0)

    def test_one_star(self):
        ones, others = laid([(SPARK, (0, 3, 4))]), laid([(SPARK, (0, 1, 2))])
        self.assertEqual(meetings(ones, others, (0, 2, 2)), 1)
        self.assertEqual(meetings(ones, others, (1, 5, 3)), 1)
        self.assertEqual(meetings(ones, others, STILL), 0)
        self.assertEqual(meetings(ones, others, (0, -2, -2)), 0)
        self.assertEqual(meetings(others, ones, (0, -2, -2)), 1)

    def test_unlike_brightness_does_not_meet(self):
        ones = laid([(CROOK, STILL)])
        others = laid([(("other", 3, 2, 4, [(0, 0, 4), (2, 0, 6), (0, 1, 9)]), STILL)])
        self.assertEqual(meetings(ones, others, STILL), 1)
        self.assertEqual(meetings(ones, ones, STILL), 3)

    def test_stars_over_unders_and_unseen_do_not_meet(self):
        self.assertEqual(meetings(laid([(SPARK, STILL)]), laid([(DIM, STILL)]), STILL), 0)
        self.assertEqual(meetings(laid([(SPARK, STILL)]), laid([(SPARK, STILL)]), (0, 1, 0)), 0)

    def test_denying_motions_are_counted_too(self):
        even = laid([(EVEN, STILL)])
        self.assertEqual(meetings(even, even, (0, 2, 0)), 1)
        self.assertEqual(meetings(even, laid([(("m", 3, 1, 7, [(1, 0, 7), (2, 0, 7)]), STILL)]), STILL), 1)

    def test_a_place_counts_once(self):
        ones = laid([(SPARK, STILL), (("again", 1, 1, 2, [(0, 0, 5)]), STILL), (("wide", 2, 2, 6, []), STILL)])
        others = laid([(SPARK, STILL), (("more", 2, 2, 3, [(0, 0, 5)]), STILL)])
        self.assertEqual(meetings(ones, others, STILL), 1)
        self.assertEqual(meetings(others, ones, STILL), 1)

    def test_great_shifts(self):
        for turn in TURNS:
            motion = (turn, HUNDRED, -HUNDRED)
            ones = laid(led_lays([(CROOK, (1, 4, 4))], motion))
            others = laid([(CROOK, (1, 4, 4))])
            self.assertEqual(meetings(ones, others, motion), 3)

    def test_many_lists(self):
        rng = random.Random(51)
        counts = []
        for ones, others in lists_without_refused_places(52, 60):
            for step in range(30):
                motion = random_motion(rng, 3)
                told = meetings(laid(ones), laid(others), motion)
                self.assertEqual(told, expected_meetings(ones, others, motion), (ones, others, motion))
                self.assertIs(type(told), int)
                counts.append(told)
        self.assertGreater(len(set(counts)), 2)


class LayingsTest(unittest.TestCase):
    def assert_told(self, told):
        self.assertIs(type(told), list)
        for motion in told:
            self.assertIs(type(motion), tuple)
            self.assertEqual([type(number) for number in motion], [int, int, int])
        self.assertEqual(told, sorted(set(told)))

    def test_no_plates(self):
        spark = laid([(SPARK, STILL)])
        for least in (1, 2, HUNDRED):
            self.assertEqual(layings([], [], least), [])
            self.assertEqual(layings(spark, [], least), [])
            self.assertEqual(layings([], spark, least), [])

    def test_no_stars(self):
        self.assertEqual(layings(laid([(DIM, STILL)]), laid([(DIM, STILL)]), 1), [])
        self.assertEqual(layings(laid([(DIM, STILL)]), laid([(SPARK, STILL)]), 1), [])

    def test_one_star_on_one_star(self):
        ones, others = laid([(SPARK, (0, 3, 4))]), laid([(SPARK, (0, 1, 2))])
        self.assertEqual(layings(ones, others, 1), [
            (0, 2, 2), (1, 5, 3), (2, 4, 6), (3, 1, 5), (4, 4, 2), (5, 5, 5), (6, 2, 6), (7, 1, 3),
        ])
        self.assertEqual(layings(ones, others, 2), [])

    def test_unlike_brightness_is_no_laying(self):
        bright = ("bright", 1, 1, 5, [(0, 0, 6)])
        self.assertEqual(layings(laid([(SPARK, STILL)]), laid([(bright, STILL)]), 1), [])

    def test_a_plate_on_itself(self):
        crook = laid([(CROOK, STILL)])
        self.assertEqual(layings(crook, crook, 3), [STILL])
        self.assertIn(STILL, layings(crook, crook, 1))
        self.assertEqual(layings(crook, crook, 4), [])
        even = laid([(EVEN, STILL)])
        self.assertEqual(layings(even, even, 2), [(0, 0, 0), (2, 2, 0), (4, 2, 0), (6, 0, 0)])

    def test_the_motion_leads_the_others_frame_to_the_ones(self):
        lays = [(CROOK, (0, 7, 1))]
        for motion in [(turn, 20, -30) for turn in TURNS] + [(turn, -HUNDRED, HUNDRED) for turn in TURNS]:
            self.assertEqual(layings(laid(led_lays(lays, motion)), laid(lays), 3), [motion])
            home = layings(laid(lays), laid(led_lays(lays, motion)), 3)
            self.assertEqual(len(home), 1)
            self.assertEqual(put_together(motion, home[0]), STILL)

    def test_a_star_on_an_under_denies_from_either_side(self):
        pair = ("pair", 2, 1, 5, [(0, 0, 5), (1, 0, 5)])
        half = ("half", 2, 1, 5, [(0, 0, 5)])
        # Of half's two places the second one shows that no second star is there.
        for ones, others in ((pair, half), (half, pair)):
            told = layings(laid([(ones, STILL)]), laid([(others, STILL)]), 1)
            self.assertNotIn(STILL, told)
            self.assertEqual(told, sorted(all_layings([(ones, STILL)], [(others, STILL)])))
            self.assertEqual(len(told), 12)

    def test_least_counts(self):
        ones = [(CROOK, STILL)]
        others = [(("part", 2, 2, 7, []), (0, 5, 5)), (("spot", 1, 1, 4, [(0, 0, 4)]), STILL),
                  (("spat", 1, 1, 4, [(0, 0, 6)]), (0, 0, 1))]
        found = all_layings(ones, others)
        self.assertEqual(sorted(set(found.values())), [1, 2])
        for least in (1, 2, 3, 4, 100, HUNDRED):
            told = layings(laid(ones), laid(others), least)
            self.assertEqual(told, sorted([motion for motion in found if found[motion] >= least]))

    def test_bad_counts(self):
        spark, crook = laid([(SPARK, STILL)]), laid([(CROOK, STILL)])
        for least in BAD_COUNTS:
            for ones, others in itertools.product([spark, crook, []], repeat=2):
                with self.assertRaises(BadCount):
                    layings(ones, others, least)

    def test_a_name_in_both_lists(self):
        other_spark = ("spark", 1, 1, 3, [(0, 0, 5)])
        self.assertEqual(len(layings(laid([(SPARK, STILL)]), laid([(other_spark, STILL)]), 1)), 8)

    def test_far_apart_windows(self):
        ones = laid([(SPARK, STILL), (CROOK, (0, HUNDRED, HUNDRED))])
        others = laid([(SPARK, (0, 5, 5)), (CROOK, (0, HUNDRED + 5, HUNDRED + 5))])
        self.assertEqual(layings(ones, others, 4), [(0, -5, -5)])
        self.assertIn((0, -5, -5), layings(ones, others, 1))

    def test_many_lists(self):
        lengths = []
        for ones, others in lists_without_refused_places(61, 60):
            found = all_layings(ones, others)
            for least in (1, 2, 3, 4):
                told = layings(laid(ones), laid(others), least)
                self.assertEqual(told, sorted([motion for motion in found if found[motion] >= least]), (ones, others))
                self.assert_told(told)
                lengths.append(len(told))
        self.assertGreater(max(lengths), 20)
        self.assertEqual(min(lengths), 0)

    def test_each_keeps_the_lists_from_being_unlike_and_lets_stars_meet(self):
        for ones, others in lists_without_refused_places(62, 30):
            for least in (1, 2):
                for motion in layings(laid(ones), laid(others), least):
                    self.assertIsNone(expected_unlike(ones, led_lays(others, motion)))
                    self.assertGreaterEqual(expected_meetings(ones, others, motion), least)

    def test_any_order_of_the_lists(self):
        for ones, others in lists_without_refused_places(63, 20):
            told = layings(laid(ones), laid(others), 1)
            self.assertEqual(layings(laid(ones[::-1]), laid(others[::-1]), 1), told)

    def test_six_plates_each(self):
        rng = random.Random(64)
        glasses = [random_glass(rng, name, 8, 8, (9,)) for name in "abcdef"]
        lays = [(glass, (at % 8, 30 * at, 7 * at * at)) for at, glass in enumerate(glasses)]
        many = len(star_places(lays))
        motion = (5, 1234, -987)
        told = layings(laid(led_lays(lays, motion)), laid(lays), 1)
        self.assert_told(told)
        self.assertIn(motion, told)
        self.assertEqual(layings(laid(led_lays(lays, motion)), laid(lays), many), [motion])


class SureTest(unittest.TestCase):
    def test_one_laying(self):
        crook = laid([(CROOK, STILL)])
        wide = laid([(("wide", 4, 2, 2, CROOK[4]), STILL)])
        self.assertEqual(layings(crook, wide, 3), [STILL])
        self.assertEqual(sure(crook, wide, 3, (0, 0)), ("star", 4))
        self.assertEqual(sure(crook, wide, 3, (1, 0)), ("under", 2))
        self.assertEqual(sure(crook, wide, 3, (3, 1)), ("under", 2))
        self.assertEqual(sure(crook, wide, 3, (4, 1)), UNSEEN)
        self.assertEqual(sure(crook, wide, 3, (-HUNDRED, HUNDRED)), UNSEEN)

    def test_layings_that_tell_unlike_things(self):
        spark = laid([(SPARK, STILL)])
        pair = laid([(("pair", 2, 1, 3, [(0, 0, 5), (1, 0, 4)]), STILL)])
        # The star of 4 comes to lie on each of the four sides, and of the others nothing is said.
        self.assertEqual(len(layings(spark, pair, 1)), 8)
        self.assertEqual(sure(spark, pair, 1, (0, 0)), ("star", 5))
        for place in ((1, 0), (0, 1), (-1, 0), (0, -1), (1, 1)):
            self.assertEqual(sure(spark, pair, 1, place), UNSEEN)

    def test_the_wide_saying_of_stars_and_unders(self):
        ones = [(("ones", 3, 1, 9, [(1, 0, 9)]), STILL)]
        others = [(("others", 3, 1, 2, [(1, 0, 9), (2, 0, 4)]), STILL)]
        # At (0, 0) there may be the star of 4, less than 2, or, where others stand upright, less than 9.
        self.assertEqual(sure(laid(ones), laid(others), 1, (1, 0)), ("star", 9))
        self.assertEqual(sure(laid(ones), laid(others), 1, (0, 0)), ("under", 9))
        upright = ones + [(("upright", 1, 3, 3, [(0, 1, 9)]), (0, 1, -1))]
        # The star of 4 can't lie on the upright plate, so the others lie along the ones.
        self.assertEqual(sure(laid(upright), laid(others), 1, (0, 0)), ("under", 5))
        self.assertEqual(sure(laid(upright), laid(others), 1, (2, 0)), ("under", 5))
        self.assertEqual(sure(laid(upright), laid(others), 1, (1, 1)), ("under", 3))

    def test_the_place_is_one_of_the_ones_frame(self):
        lays = [(CROOK, (3, 2, 2))]
        for motion in [(turn, 40, -HUNDRED) for turn in TURNS]:
            ones, others = laid(led_lays(lays, motion)), laid(lays)
            for place in frame_places(lays):
                expected = BY_LEFT[left_by_all(voices(lays, place))]
                self.assertEqual(sure(ones, others, 3, led(motion, place)), expected)
                self.assertEqual(sure(ones, others, 3, place), UNSEEN)

    def test_no_laying(self):
        spark, dim, crook = laid([(SPARK, STILL)]), laid([(DIM, STILL)]), laid([(CROOK, STILL)])
        for ones, others, least in [
            ([], [], 1), (spark, [], 1), ([], spark, 1), (spark, dim, 1), (dim, spark, 1), (dim, dim, 1),
            (spark, spark, 2), (crook, crook, 4), (crook, crook, HUNDRED),
        ]:
            for place in ((0, 0), (HUNDRED, 0)):
                with self.assertRaises(NoLaying):
                    sure(ones, others, least, place)

    def test_bad_count_comes_ahead_of_no_laying(self):
        spark, dim = laid([(SPARK, STILL)]), laid([(DIM, STILL)])
        for least in BAD_COUNTS:
            for ones, others in itertools.product([spark, dim, []], repeat=2):
                with self.assertRaises(BadCount):
                    sure(ones, others, least, (0, 0))

    def test_many_lists(self):
        words = set()
        for ones, others in lists_without_refused_places(71, 40):
            found = all_layings(ones, others)
            for least in (1, 2):
                motions = [motion for motion in found if found[motion] >= least]
                for place in itertools.product(range(-4, 5, 2), range(-5, 6, 3)):
                    if motions:
                        told = sure(laid(ones), laid(others), least, place)
                        self.assertEqual(told, expected_sure(ones, others, motions, place), (ones, others, place))
                        self.assertIs(type(told), tuple)
                        words.add(told[0])
                    else:
                        with self.assertRaises(NoLaying):
                            sure(laid(ones), laid(others), least, place)
        self.assertEqual(words, {"star", "under", "unseen"})


class KeptTest(unittest.TestCase):
    def test_nothing_handed_in_is_changed(self):
        ones = laid([(SPARK, (0, 9, 9)), (CROOK, STILL)])
        others = laid([(EVEN, (1, 40, 0)), (CROOK, (3, 1, 1)), (SPARK, (4, 20, 20))])
        before = [[(plate, plate.stars(), motion) for plate, motion in lays] for lays in (ones, others)]
        meetings(ones, others, (3, 4, 4))
        layings(ones, others, 1)
        sure(ones, others, 1, (0, 0))
        for refused in (lambda: layings(ones, others, 0), lambda: sure(ones, others, 99, (0, 0))):
            with self.assertRaises((BadCount, NoLaying)):
                refused()
        after = [[(plate, plate.stars(), motion) for plate, motion in lays] for lays in (ones, others)]
        self.assertEqual(after, before)

    def test_told_lists_are_new(self):
        spark = laid([(SPARK, STILL)])
        told = layings(spark, spark, 1)
        told.clear()
        self.assertEqual(len(layings(spark, spark, 1)), 8)
        layings([], [], 1).append(STILL)
        self.assertEqual(layings([], [], 1), [])

    def test_one_list_may_be_handed_in_twice(self):
        lays = laid([(CROOK, STILL), (SPARK, (0, 8, 8))])
        self.assertEqual(layings(lays, lays, 4), [STILL])
        self.assertEqual(meetings(lays, lays, STILL), 4)


if __name__ == "__main__":
    unittest.main()

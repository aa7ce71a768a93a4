"""Skies, as [7] to [10] and the interface's nightglass/skies.py tell them."""

import itertools
import random
import unittest

from oracle import (
    HUNDRED, OTHER_HUNDRED, SAYINGS, STILL, TURNS, UNSEEN, expected_chart, expected_form, expected_matches,
    expected_said, expected_unlike, frame_places, laid, led, led_chart, led_lays, put_together, random_glass,
    random_motion,
)

from nightglass.errors import Denied
from nightglass.plates import Plate
from nightglass.skies import chart, face, form, matches, said, unlike

VEGA = ("vega", 2, 2, 3, [(0, 0, 5)])
LYRA = ("lyra", 2, 1, 6, [])
DENEB = ("deneb", 1, 1, 1, [])

FAR_MOTIONS = [(turn, right, up) for turn in TURNS for right, up in ((HUNDRED, -HUNDRED), (-OTHER_HUNDRED, 3))]


def random_lays(rng, names, far, brights=range(1, 10), side=4):
    """Lays that may or may not deny one another."""
    return [(random_glass(rng, name, side, 3, brights), random_motion(rng, far)) for name in names]


def kept(plates):
    """All that a laid list shows, to be held against what it shows later."""
    return [
        (plate, (plate.name, plate.width, plate.height, plate.limit, plate.stars()), motion)
        for plate, motion in plates
    ]


class SaidTest(unittest.TestCase):
    def assert_said(self, lays, place):
        expected = expected_said(lays, place)
        if expected is None:
            with self.assertRaises(Denied):
                said(laid(lays), place)
        else:
            told = said(laid(lays), place)
            self.assertEqual(told, expected, (lays, place))
            self.assertIs(type(told), tuple)

    def test_no_plates(self):
        for place in [(0, 0), (3, -4), (HUNDRED, HUNDRED)]:
            self.assertEqual(said([], place), UNSEEN)

    def test_one_plate(self):
        plates = laid([(VEGA, STILL)])
        self.assertEqual(said(plates, (0, 0)), ("star", 5))
        self.assertEqual(said(plates, (1, 1)), ("under", 3))
        self.assertEqual(said(plates, (2, 0)), UNSEEN)
        self.assertEqual(said(plates, (0, -1)), UNSEEN)

    def test_the_motion_leads_the_plates_places_to_the_frames(self):
        plates = laid([(VEGA, (1, 10, 0))])
        # (0, 1) is turned to (-1, 0) and comes to (9, 0); (1, 0) comes to (10, 1).
        self.assertEqual(said(plates, (10, 0)), ("star", 5))
        self.assertEqual(said(plates, (9, 0)), ("under", 3))
        self.assertEqual(said(plates, (10, 1)), ("under", 3))
        self.assertEqual(said(plates, (11, 0)), UNSEEN)
        self.assertEqual(said(plates, (0, 0)), UNSEEN)

    def test_several_over_one_another(self):
        plates = laid([(VEGA, STILL), (LYRA, STILL), (("altair", 2, 2, 4, [(0, 0, 5)]), STILL)])
        self.assertEqual(said(plates, (0, 0)), ("star", 5))
        self.assertEqual(said(plates, (1, 0)), ("under", 3))
        self.assertEqual(said(plates, (0, 1)), ("under", 3))

    def test_denied(self):
        denying = laid([(VEGA, STILL), (DENEB, STILL)])
        with self.assertRaises(Denied):
            said(denying, (0, 0))
        self.assertEqual(said(denying, (0, 1)), ("under", 3))
        self.assertEqual(said(denying, (5, 5)), UNSEEN)
        two_stars = laid([(VEGA, STILL), (("m", 1, 1, 1, [(0, 0, 6)]), STILL)])
        with self.assertRaises(Denied):
            said(two_stars, (0, 0))

    def test_deniers_apart_in_the_list(self):
        between = [((letter, 1, 1, 9, []), STILL) for letter in "pqrs"]
        for first, last in ((VEGA, DENEB), (DENEB, VEGA)):
            for apart in range(5):
                with self.assertRaises(Denied):
                    said(laid([(first, STILL)] + between[:apart] + [(last, STILL)]), (0, 0))

    def test_many_lists(self):
        rng = random.Random(21)
        for step in range(60):
            lays = random_lays(rng, "abcd"[:rng.randint(0, 4)], 3)
            for place in itertools.product(range(-9, 10, 2), range(-9, 10, 3)):
                self.assert_said(lays, place)
            for place in frame_places(lays)[:12]:
                self.assert_said(lays, place)

    def test_far_motions(self):
        for motion in FAR_MOTIONS:
            for place in ((0, 0), (0, 1), (1, 0), (1, 1)):
                goal = led(motion, place)
                self.assert_said([(VEGA, motion), (LYRA, motion)], goal)
                self.assert_said([(VEGA, motion), (LYRA, STILL)], goal)
                self.assert_said([(VEGA, STILL), (LYRA, motion)], place)


class UnlikeTest(unittest.TestCase):
    def assert_unlike(self, lays, others):
        told = unlike(laid(lays), laid(others))
        self.assertEqual(told, expected_unlike(lays, others), (lays, others))
        if told is not None:
            self.assertIs(type(told), tuple)
            self.assertIs(type(told[2]), tuple)

    def test_none(self):
        self.assertIsNone(unlike([], []))
        self.assertIsNone(unlike(laid([(VEGA, STILL)]), []))
        self.assertIsNone(unlike([], laid([(VEGA, STILL)])))
        self.assertIsNone(unlike(laid([(VEGA, STILL)]), laid([(LYRA, STILL)])))
        self.assertIsNone(unlike(laid([(VEGA, STILL)]), laid([(DENEB, (0, 2, 0))])))
        self.assertIsNone(unlike(laid([(VEGA, STILL)]), laid([(DENEB, (0, 1, 0))])))

    def test_either_list_may_have_the_star(self):
        self.assertEqual(unlike(laid([(VEGA, STILL)]), laid([(DENEB, STILL)])), ("vega", "deneb", (0, 0)))
        self.assertEqual(unlike(laid([(DENEB, STILL)]), laid([(VEGA, STILL)])), ("deneb", "vega", (0, 0)))

    def test_the_place_is_in_the_numbers_of_here(self):
        # Deneb's one place comes to (10, 20) of the frame, and so does vega's (0, 0).
        here = laid([(VEGA, (3, 10, 20))])
        there = laid([(DENEB, (6, 10, 20))])
        self.assertEqual(unlike(here, there), ("vega", "deneb", (0, 0)))
        star = ("star", 3, 3, 5, [(2, 1, 5)])
        # (2, 1) is turned to (-1, 2) and comes to (4, 2).
        self.assertEqual(unlike(laid([(star, (1, 5, 0))]), laid([(DENEB, (0, 4, 2))])), ("star", "deneb", (2, 1)))
        self.assertEqual(unlike(laid([(DENEB, (0, 4, 2))]), laid([(star, (1, 5, 0))])), ("deneb", "star", (0, 0)))

    def test_the_first_place_in_order_of_here(self):
        stars = ("stars", 3, 3, 5, [(2, 0, 5), (1, 2, 5), (1, 1, 5)])
        blank = ("blank", 3, 3, 5, [])
        for turn in TURNS:
            motion = (turn, 4, -7)
            self.assertEqual(unlike(laid([(stars, motion)]), laid([(blank, motion)])), ("stars", "blank", (1, 1)))
            self.assertEqual(unlike(laid([(blank, motion)]), laid([(stars, motion)])), ("blank", "stars", (1, 1)))
        # Turned half round, blank's (0, 2) lies on the star (2, 0), and (1, 0) and (1, 1) on the other two.
        self.assertEqual(unlike(laid([(blank, (2, 2, 2))]), laid([(stars, STILL)])), ("blank", "stars", (0, 2)))

    def test_names_come_ahead_of_places(self):
        late = ("b", 2, 2, 5, [(0, 0, 5)])
        early = ("a", 2, 2, 5, [(1, 1, 5)])
        blanks = [(("d", 2, 2, 5, []), STILL), (("c", 2, 2, 5, []), STILL)]
        for lays in itertools.permutations([(late, STILL), (early, STILL)]):
            for others in itertools.permutations(blanks):
                self.assertEqual(unlike(laid(lays), laid(others)), ("a", "c", (1, 1)))
        narrow = [(("c", 1, 1, 5, []), STILL), (("d", 2, 2, 5, []), STILL)]
        # C does not reach to a's star, so a and d are the first; b and c come behind them.
        for others in itertools.permutations(narrow):
            self.assertEqual(unlike(laid([(late, STILL), (early, STILL)]), laid(others)), ("a", "d", (1, 1)))

    def test_the_other_name_comes_ahead_of_the_place(self):
        here = ("h", 2, 1, 5, [(0, 0, 5), (1, 0, 5)])
        others = [(("z", 1, 1, 5, []), STILL), (("y", 1, 1, 5, []), (0, 1, 0))]
        self.assertEqual(unlike(laid([(here, STILL)]), laid(others)), ("h", "y", (1, 0)))
        self.assertEqual(unlike(laid([(here, STILL)]), laid(others[::-1])), ("h", "y", (1, 0)))

    def test_a_name_in_both_lists(self):
        lone = ("a", 2, 1, 5, [(0, 0, 5)])
        self.assertIsNone(unlike(laid([(lone, STILL)]), laid([(lone, STILL)])))
        self.assertEqual(unlike(laid([(lone, STILL)]), laid([(lone, (0, -1, 0))])), ("a", "a", (0, 0)))
        self.assertIsNone(unlike(laid([(lone, STILL)]), laid([(lone, (0, -2, 0))])))
        other = ("a", 1, 1, 7, [(0, 0, 7)])
        self.assertEqual(unlike(laid([(lone, STILL)]), laid([(other, STILL)])), ("a", "a", (0, 0)))

    def test_what_one_list_denies_itself_is_not_asked(self):
        denying = laid([(VEGA, STILL), (DENEB, STILL)])
        self.assertIsNone(unlike(denying, laid([(LYRA, (0, 5, 5))])))

    def test_many_lists(self):
        rng = random.Random(22)
        told = []
        for step in range(250):
            lays = random_lays(rng, rng.sample("abcde", rng.randint(0, 3)), 3, (7, 8, 9))
            others = random_lays(rng, rng.sample("abcde", rng.randint(0, 3)), 3, (7, 8, 9))
            self.assert_unlike(lays, others)
            told.append(unlike(laid(lays), laid(others)))
            motion = random_motion(rng, HUNDRED)
            self.assertEqual(unlike(laid(led_lays(lays, motion)), laid(led_lays(others, motion))), told[-1])
        self.assertGreater(len([row for row in told if row is None]), 40)
        self.assertGreater(len([row for row in told if row is not None]), 40)


class ChartTest(unittest.TestCase):
    def assert_chart(self, lays):
        expected = expected_chart(lays)
        if expected is None:
            with self.assertRaises(Denied):
                chart(laid(lays))
            with self.assertRaises(Denied):
                face(laid(lays))
            return
        told = chart(laid(lays))
        self.assertEqual(told, expected, lays)
        self.assertIs(type(told), list)
        self.assertEqual({type(row) for row in told} | {tuple}, {tuple})
        stars = face(laid(lays))
        self.assertEqual(stars, [(x, y, number) for x, y, word, number in expected if word == "star"], lays)
        self.assertIs(type(stars), list)

    def test_no_plates(self):
        self.assertEqual(chart([]), [])
        self.assertEqual(face([]), [])

    def test_one_plate(self):
        plates = laid([(VEGA, STILL)])
        self.assertEqual(chart(plates), [
            (0, 0, "star", 5), (0, 1, "under", 3), (1, 0, "under", 3), (1, 1, "under", 3),
        ])
        self.assertEqual(face(plates), [(0, 0, 5)])

    def test_one_plate_turned(self):
        plates = laid([(("a", 2, 1, 3, [(1, 0, 9)]), (1, 10, 0))])
        self.assertEqual(chart(plates), [(10, 0, "under", 3), (10, 1, "star", 9)])
        self.assertEqual(face(plates), [(10, 1, 9)])

    def test_several_over_one_another(self):
        plates = laid([(LYRA, (0, 0, -1)), (VEGA, STILL), (LYRA[:1] + (3, 1, 2, [(1, 0, 2)]), (0, 1, 1))])
        self.assertEqual(chart(plates), [
            (0, -1, "under", 6), (0, 0, "star", 5), (0, 1, "under", 3),
            (1, -1, "under", 6), (1, 0, "under", 3), (1, 1, "under", 2),
            (2, 1, "star", 2), (3, 1, "under", 2),
        ])
        self.assertEqual(face(plates), [(0, 0, 5), (2, 1, 2)])

    def test_far_apart(self):
        for motion in FAR_MOTIONS:
            lays = [(VEGA, motion), (LYRA, STILL), (DENEB, (0, 500, 500))]
            self.assert_chart(lays)
            self.assertEqual(len(chart(laid(lays))), 7)

    def test_rows_in_order_of_numbers(self):
        plates = laid([(("a", 1, 1, 1, []), (0, 10, 0)), (("b", 1, 1, 2, []), (0, 9, 5)),
                       (("c", 1, 1, 3, []), (0, -3, 5)), (("d", 1, 1, 4, []), (0, 9, -5))])
        expected = [(-3, 5, "under", 3), (9, -5, "under", 4), (9, 5, "under", 2), (10, 0, "under", 1)]
        for handed in itertools.permutations(plates):
            self.assertEqual(chart(list(handed)), expected)

    def test_denied_at_any_place(self):
        wide = ("wide", 3, 3, 9, [(x, y, 9) for x in range(3) for y in range(3) if (x, y) != (1, 1)])
        for place in wide[4]:
            lays = [(wide, (5, 3, 3)), (DENEB, (0,) + led((5, 3, 3), place[:2]))]
            for handed in (lays, lays[::-1], [(LYRA, (0, 90, 90))] + lays):
                self.assertIsNone(expected_chart(handed))
                self.assert_chart(handed)
        self.assert_chart([(wide, (5, 3, 3)), (DENEB, (0,) + led((5, 3, 3), (1, 1)))])
        self.assert_chart([(wide, (5, 3, 3)), (DENEB, (0,) + led((5, 3, 3), (3, 1)))])

    def test_a_denied_place_without_a_star_of_the_face_denies_the_face(self):
        lays = [(("a", 1, 1, 5, [(0, 0, 5)]), STILL), (("b", 1, 1, 5, []), STILL)]
        lays.append((("c", 1, 1, 1, [(0, 0, 9)]), (0, 7, 7)))
        with self.assertRaises(Denied):
            face(laid(lays))

    def test_many_lists(self):
        rng = random.Random(23)
        refused = 0
        for step in range(120):
            lays = random_lays(rng, "abcd"[:rng.randint(0, 4)], 3, rng.choice([(9,), (5, 6)]))
            refused += expected_chart(lays) is None
            self.assert_chart(lays)
        self.assertGreater(refused, 20)
        self.assertLess(refused, 100)

    def test_said_tells_each_row(self):
        rng = random.Random(24)
        for step in range(20):
            lays = [(random_glass(rng, "a"), random_motion(rng, 9)), (("b", 8, 8, 9, []), random_motion(rng, 9))]
            if expected_chart(lays) is not None:
                for x, y, word, number in chart(laid(lays)):
                    self.assertEqual(said(laid(lays), (x, y)), (word, number))

    def test_twelve_plates(self):
        lays = [(("p" + letter, 8, 8, 4, [(x, x, 4 + x % 6) for x in range(8)]), (2, 8 * at, -5))
                for at, letter in enumerate("abcdefghijkl")]
        self.assert_chart(lays)
        self.assertEqual(len(chart(laid(lays))), 768)


def random_chart(rng, size):
    """Rows of sayings at places near one another, in order, at least one."""
    places = [(x, y) for x in range(size) for y in range(size)]
    chosen = rng.sample(places, rng.randint(1, len(places)))
    words = rng.sample(SAYINGS[:18], rng.randint(1, 3))
    return sorted([place + rng.choice(words) for place in chosen])


# The same from all sides, from two, and from none but itself.
SQUARE = [(0, 0, "under", 3), (0, 1, "under", 3), (1, 0, "under", 3), (1, 1, "under", 3)]
BAR = [(4, 7, "star", 2), (5, 7, "star", 2), (6, 7, "star", 2)]
HOOK = [(0, 0, "star", 1), (0, 1, "star", 1), (0, 2, "star", 1), (1, 0, "star", 1)]


class FormTest(unittest.TestCase):
    def test_written_ones(self):
        self.assertEqual(form([(7, -9, "under", 4)]), [(0, 0, "under", 4)])
        self.assertEqual(form(SQUARE), SQUARE)
        self.assertEqual(form(BAR), [(0, 0, "star", 2), (0, 1, "star", 2), (0, 2, "star", 2)])
        self.assertEqual(form([(5, 5, "star", 9), (6, 5, "star", 2)]), [(0, 0, "star", 2), (0, 1, "star", 9)])
        self.assertEqual(form([(0, 3, "under", 9), (1, 3, "star", 9)]), [(0, 0, "star", 9), (0, 1, "under", 9)])

    def test_the_least_is_that_of_the_lists_not_of_the_rows_sayings(self):
        rows = [(0, 0, "star", 1), (3, 1, "under", 1)]
        self.assertEqual(form(rows), [(0, 0, "star", 1), (1, 3, "under", 1)])
        rows = [(0, 0, "under", 1), (2, 1, "star", 1)]
        self.assertEqual(form(rows), [(0, 0, "star", 1), (1, 2, "under", 1)])

    def test_a_hook_by_hand(self):
        expected = [(0, 0, "star", 1), (0, 1, "star", 1), (0, 2, "star", 1), (1, 0, "star", 1)]
        for motion in [(turn, 50, -3) for turn in TURNS]:
            self.assertEqual(form(led_chart(HOOK, motion)), expected)

    def test_many_charts(self):
        rng = random.Random(31)
        for step in range(200):
            rows = random_chart(rng, 4)
            told = form(rows)
            self.assertEqual(told, expected_form(rows), rows)
            self.assertIs(type(told), list)
            self.assertEqual(form(told), told)
            for turn in TURNS:
                motion = (turn, rng.randint(-HUNDRED, HUNDRED), rng.randint(-50, 50))
                self.assertEqual(form(led_chart(rows, motion)), told, (rows, motion))

    def test_unlike_charts_have_unlike_forms(self):
        self.assertNotEqual(form(HOOK), form(HOOK[:3] + [(1, 1, "star", 1)]))
        self.assertNotEqual(form(HOOK), form(HOOK[:3] + [(1, 0, "star", 2)]))

    def test_charts_of_laid_plates(self):
        rng = random.Random(32)
        for step in range(20):
            lays = [(random_glass(rng, "a"), STILL), (("b", 8, 8, 9, []), random_motion(rng, 10 ** 40))]
            if expected_chart(lays) is not None:
                told = form(chart(laid(lays)))
                moved_lays = led_lays(lays, random_motion(rng, 10 ** 50))
                self.assertEqual(form(chart(laid(moved_lays))), told)

    def test_the_chart_stays_and_the_form_is_new(self):
        rows = list(SQUARE)
        told = form(rows)
        told.append((9, 9, "star", 9))
        told[0] = (8, 8, "star", 8)
        self.assertEqual(rows, SQUARE)
        self.assertEqual(form(rows), SQUARE)
        hook = led_chart(HOOK, (3, 1, 1))
        handed = list(hook)
        form(handed)
        self.assertEqual(handed, hook)


class MatchesTest(unittest.TestCase):
    def assert_matches(self, one, other):
        told = matches(one, other)
        self.assertEqual(told, expected_matches(one, other), (one, other))
        self.assertIs(type(told), list)
        self.assertEqual(told, sorted(told))
        return told

    def test_one_row_matches_by_every_turn(self):
        told = matches([(5, 6, "star", 1)], [(2, 3, "star", 1)])
        self.assertEqual([motion[0] for motion in told], list(TURNS))
        for motion in told:
            self.assertEqual(led(motion, (2, 3)), (5, 6))
        self.assertEqual(matches([(5, 6, "star", 1)], [(2, 3, "star", 2)]), [])
        self.assertEqual(matches([(5, 6, "star", 1)], [(2, 3, "under", 1)]), [])

    def test_a_chart_with_itself(self):
        self.assertEqual(matches(HOOK, HOOK), [STILL])
        self.assertEqual(len(self.assert_matches(SQUARE, SQUARE)), 8)
        self.assertEqual(self.assert_matches(BAR, BAR), [(0, 0, 0), (2, 10, 14), (4, 10, 0), (6, 0, 14)])

    def test_the_motion_leads_the_others_rows_to_the_ones(self):
        for motion in [(turn, 3, -8) for turn in TURNS] + FAR_MOTIONS:
            self.assertEqual(matches(led_chart(HOOK, motion), HOOK), [motion])
            home = matches(HOOK, led_chart(HOOK, motion))
            self.assertEqual(len(home), 1)
            self.assertEqual(put_together(motion, home[0]), STILL)

    def test_onto_itself_by_several_motions(self):
        for motion in [(turn, 3, -8) for turn in TURNS]:
            self.assertEqual(len(self.assert_matches(led_chart(SQUARE, motion), SQUARE)), 8)
            self.assertEqual(len(self.assert_matches(led_chart(BAR, motion), BAR)), 4)

    def test_one_row_changed_left_out_or_put_beside(self):
        rng = random.Random(41)
        for step in range(80):
            rows = random_chart(rng, 3)
            at = rng.randrange(len(rows))
            motion = random_motion(rng, 20)
            changed = rows[:at] + [rows[at][:2] + ("star" if rows[at][2] == "under" else "under", rows[at][3])]
            changed += rows[at + 1:]
            beside = sorted(rows + [(rng.randint(3, 5), rng.randint(3, 5), "star", 4)])
            for other in (changed, beside, rows[:at] + rows[at + 1:]):
                if other:
                    self.assertEqual(matches(led_chart(rows, motion), other), [])
                    self.assertEqual(matches(other, led_chart(rows, motion)), [])

    def test_a_place_moved_within_the_same_corners(self):
        one = [(0, 0, "star", 1), (1, 2, "star", 1), (3, 3, "star", 1)]
        other = [(0, 0, "star", 1), (1, 1, "star", 1), (3, 3, "star", 1)]
        self.assertEqual(matches(one, other), [])

    def test_many_charts(self):
        rng = random.Random(42)
        several = 0
        for step in range(300):
            one = random_chart(rng, rng.choice([1, 2, 2, 3]))
            other = led_chart(one, random_motion(rng, 30)) if rng.random() < 0.6 else random_chart(rng, 2)
            several += len(self.assert_matches(one, other)) > 1
        self.assertGreater(several, 20)

    def test_forms_are_the_same_where_charts_match(self):
        rng = random.Random(43)
        for step in range(300):
            one, other = random_chart(rng, 2), random_chart(rng, 2)
            self.assertEqual(bool(matches(one, other)), form(one) == form(other))

    def test_the_charts_stay(self):
        one, other = led_chart(BAR, (1, 4, 4)), list(BAR)
        kept_one, kept_other = list(one), list(other)
        told = matches(one, other)
        again = matches(one, other)
        told.clear()
        self.assertEqual(len(again), 4)
        self.assertEqual((one, other), (kept_one, kept_other))


class KeptTest(unittest.TestCase):
    def test_no_laid_list_is_changed(self):
        lays = [(VEGA, (1, 2, 3)), (LYRA, (4, 0, 0)), (("a", 3, 3, 2, [(2, 0, 4), (0, 1, 3)]), (6, 40, 40))]
        plates, others = laid(lays), laid(lays[::-1])
        before = (kept(plates), kept(others))
        for place in ((0, 0), (2, 3), (40, 40)):
            said(plates, place)
        unlike(plates, others)
        chart(plates)
        face(plates)
        matches(chart(plates), chart(others))
        self.assertEqual((kept(plates), kept(others)), before)

    def test_no_denied_list_is_changed(self):
        plates = laid([(VEGA, STILL), (DENEB, STILL)])
        before = kept(plates)
        for call in (chart, face, lambda handed: said(handed, (0, 0))):
            with self.assertRaises(Denied):
                call(plates)
        unlike(plates, plates)
        self.assertEqual(kept(plates), before)

    def test_told_lists_are_new(self):
        plates = laid([(VEGA, STILL), (LYRA, (0, 9, 9))])
        rows, stars = chart(plates), face(plates)
        expected_rows, expected_stars = list(rows), list(stars)
        rows.clear()
        stars.append((1, 1, 1))
        self.assertEqual(chart(plates), expected_rows)
        self.assertEqual(face(plates), expected_stars)
        chart([]).append(1)
        face([]).append(1)
        self.assertEqual((chart([]), face([])), ([], []))

    def test_a_list_changed_later_is_asked_anew(self):
        plates = laid([(VEGA, STILL)])
        self.assertEqual(len(chart(plates)), 4)
        plates.append((Plate(*DENEB), (0, 9, 9)))
        self.assertEqual(len(chart(plates)), 5)
        self.assertEqual(said(plates, (9, 9)), ("under", 1))


if __name__ == "__main__":
    unittest.main()

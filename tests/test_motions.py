"""Motions, as [2] and the interface's nightglass/motions.py tell them."""

import itertools
import unittest

from oracle import HUNDRED, OTHER_HUNDRED, TURNS, led

from nightglass.motions import STILL, back, behind, leading, moved

THIRTY = 123456789012345678901234567890

SHIFTS = [
    (0, 0), (3, 0), (0, 5), (2, 7), (-4, 9), (6, -1), (-8, -3),
    (THIRTY, -THIRTY + 4), (HUNDRED, OTHER_HUNDRED), (-HUNDRED, 1), (0, -OTHER_HUNDRED),
]
PLACES = [
    (0, 0), (1, 0), (0, 1), (2, 5), (-3, 4), (6, -7), (-1, -9),
    (THIRTY, 2), (-5, THIRTY + 1), (HUNDRED, -OTHER_HUNDRED), (-HUNDRED, -HUNDRED),
]
MOTIONS = [(turn, right, up) for turn in TURNS for right, up in SHIFTS]


def whole(row):
    """A row of motions put one behind the other, from the first on."""
    result = STILL
    for motion in row:
        result = behind(result, motion)
    return result


def groupings(row):
    """What each way to put a row's neighbours together comes to."""
    if len(row) == 1:
        return [row[0]]
    return [
        behind(left, right)
        for cut in range(1, len(row))
        for left in groupings(row[:cut])
        for right in groupings(row[cut:])
    ]


def rows_of_motions():
    """Rows of one to six motions, with every turn and every shift among them."""
    count = len(MOTIONS)
    return [
        [MOTIONS[(start + step * place) % count] for place in range(length)]
        for length in range(1, 7)
        for start in range(0, count, 5)
        for step in (1, 11, 13, 37)
    ]


class MotionCase(unittest.TestCase):
    def assert_place(self, told):
        self.assertIs(type(told), tuple)
        self.assertEqual([type(number) for number in told], [int, int])

    def assert_motion(self, told):
        self.assertIs(type(told), tuple)
        self.assertEqual([type(number) for number in told], [int, int, int])
        self.assertIn(told[0], TURNS)


class MovedTest(MotionCase):
    def test_table_with_written_places(self):
        goals = {
            0: (2, 5), 1: (-5, 2), 2: (-2, -5), 3: (5, -2),
            4: (-2, 5), 5: (-5, -2), 6: (2, -5), 7: (5, 2),
        }
        for turn, (x, y) in goals.items():
            with self.subTest(turn=turn):
                self.assertEqual(moved((turn, 0, 0), (2, 5)), (x, y))
                self.assertEqual(moved((turn, 100, 0), (2, 5)), (x + 100, y))
                self.assertEqual(moved((turn, 0, -40), (2, 5)), (x, y - 40))

    def test_every_turn_shift_and_place(self):
        for motion in MOTIONS:
            for place in PLACES:
                told = moved(motion, place)
                self.assertEqual(told, led(motion, place), (motion, place))
                self.assert_place(told)

    def test_still_leaves_each_place(self):
        self.assertEqual(STILL, (0, 0, 0))
        self.assert_motion(STILL)
        for place in PLACES:
            self.assertEqual(moved(STILL, place), place)

    def test_unlike_motions_never_lead_all_places_alike(self):
        motions = list(itertools.product(TURNS, range(-2, 3), range(-2, 3)))
        seen = {tuple(moved(motion, place) for place in PLACES) for motion in motions}
        self.assertEqual(len(seen), len(motions))


class BehindTest(MotionCase):
    def test_first_comes_first(self):
        self.assertEqual(behind((1, 0, 0), (0, 3, 4)), (1, 3, 4))
        self.assertEqual(behind((0, 3, 4), (1, 0, 0)), (1, -4, 3))
        self.assertEqual(behind((4, 0, 0), (1, 0, 0)), (5, 0, 0))
        self.assertEqual(behind((1, 0, 0), (4, 0, 0)), (7, 0, 0))

    def test_every_two_turns_and_shifts(self):
        for first in MOTIONS:
            for second in MOTIONS:
                told = behind(first, second)
                self.assert_motion(told)
                for place in PLACES[:5] + PLACES[-2:]:
                    self.assertEqual(led(told, place), led(second, led(first, place)), (first, second))

    def test_still_changes_no_motion(self):
        for motion in MOTIONS:
            self.assertEqual(behind(STILL, motion), motion)
            self.assertEqual(behind(motion, STILL), motion)


class BackTest(MotionCase):
    def test_written_ones(self):
        self.assertEqual(back(STILL), STILL)
        self.assertEqual(back((0, 3, -4)), (0, -3, 4))
        self.assertEqual(back((1, 3, 4)), (3, -4, 3))
        self.assertEqual(back((3, 3, 4)), (1, 4, -3))
        self.assertEqual(back((5, 3, 4)), (5, 4, 3))

    def test_each_place_is_led_home(self):
        for motion in MOTIONS:
            told = back(motion)
            self.assert_motion(told)
            for place in PLACES:
                self.assertEqual(led(told, led(motion, place)), place, motion)
                self.assertEqual(led(motion, led(told, place)), place, motion)

    def test_back_undoes_behind(self):
        for motion in MOTIONS:
            self.assertEqual(behind(motion, back(motion)), STILL)
            self.assertEqual(behind(back(motion), motion), STILL)
            self.assertEqual(back(back(motion)), motion)


class LeadingTest(MotionCase):
    def test_turn_and_goal(self):
        for turn in TURNS:
            for place in PLACES:
                for goal in PLACES:
                    told = leading(turn, place, goal)
                    self.assert_motion(told)
                    self.assertEqual(told[0], turn)
                    self.assertEqual(led(told, place), goal)

    def test_written_ones(self):
        self.assertEqual(leading(0, (1, 2), (1, 2)), STILL)
        self.assertEqual(leading(1, (2, 5), (0, 0)), (1, 5, -2))
        self.assertEqual(leading(7, (2, 5), (-1, 9)), (7, -6, 7))

    def test_it_finds_each_motion_again(self):
        for motion in MOTIONS:
            for place in PLACES:
                self.assertEqual(leading(motion[0], place, led(motion, place)), motion)


class RowsTest(MotionCase):
    def test_grouping_does_not_matter(self):
        for row in rows_of_motions():
            expected = whole(row)
            for told in groupings(row):
                self.assertEqual(told, expected, row)

    def test_the_whole_leads_as_all_do(self):
        for row in rows_of_motions():
            for place in PLACES:
                goal = place
                for motion in row:
                    goal = led(motion, goal)
                self.assertEqual(moved(whole(row), place), goal, row)

    def test_back_of_the_whole_is_the_backs_from_the_last_to_the_first(self):
        for row in rows_of_motions():
            backs = [back(motion) for motion in reversed(row)]
            self.assertEqual(back(whole(row)), whole(backs), row)
            for told in groupings(backs):
                self.assertEqual(told, back(whole(row)), row)


if __name__ == "__main__":
    unittest.main()

"""Webs, as [5], [6] and the interface's nightglass/webs.py tell them."""

import copy
import itertools
import random
import unittest

from oracle import HUNDRED, OTHER_HUNDRED, STILL, led, led_from, random_motion

from nightglass.errors import BadChain
from nightglass.webs import chains, frames, walk

PLACES = [(0, 0), (1, 0), (0, 1), (2, 5), (-3, 4), (HUNDRED, -OTHER_HUNDRED)]

# Two ways of two ties from a to d, one of them by twice tied names; e and f hang apart from them.
WEB = [
    (7, "a", "b", (1, 3, 4)),
    (3, "c", "a", (4, -2, 6)),
    (12, "b", "d", (0, 5, 5)),
    (20, "d", "c", (6, 1, 1)),
    (5, "b", "a", (2, 0, 9)),
    (31, "e", "f", (7, 8, 0)),
]


def follow(ties, chain, start):
    """The names that a chain comes to, from start on, or None where it is no chain."""
    by_number = {number: (one, other) for number, one, other, motion in ties}
    names = [start]
    for number in chain:
        ends = by_number.get(number, ())
        if names[-1] not in ends:
            return None
        names.append(ends[1] if names[-1] == ends[0] else ends[0])
    return names


def expected_chains(ties, start, longest=None):
    """Every row of tie numbers, the shortest ones first and in order: the first to come to a name is told."""
    numbers = sorted([tie[0] for tie in ties])
    names = {start}.union(*[tie[1:3] for tie in ties])
    told = {}
    for length in range(len(names) if longest is None else longest + 1):
        for row in itertools.product(numbers, repeat=length):
            reached = follow(ties, row, start)
            if reached is not None:
                told.setdefault(reached[-1], list(row))
    return told


def expected_goal(ties, chain, start, place):
    """Where a place of the plate at a chain's end comes to lie on start, one tie after the other."""
    by_number = {tie[0]: tie for tie in ties}
    names = follow(ties, chain, start)
    for number, nearer in reversed(list(zip(chain, names))):
        number, one, other, motion = by_number[number]
        place = led(motion, place) if nearer == one else led_from(motion, place)
    return place


def random_ties(rng, names, many, far=9):
    numbers = rng.sample(range(1, 60), many)
    return [(number, *rng.sample(names, 2), random_motion(rng, far)) for number in numbers]


class WebCase(unittest.TestCase):
    def assert_motion(self, told):
        self.assertIs(type(told), tuple)
        self.assertEqual([type(number) for number in told], [int, int, int])
        self.assertIn(told[0], range(8))

    def assert_leads(self, motion, ties, chain, start):
        self.assert_motion(motion)
        for place in PLACES:
            self.assertEqual(led(motion, place), expected_goal(ties, chain, start, place), (ties, chain, start))


class ChainsTest(WebCase):
    def assert_chains(self, ties, start, expected):
        told = chains(ties, start)
        self.assertEqual(told, expected, (ties, start))
        self.assertIs(type(told), dict)
        for name, chain in told.items():
            self.assertIs(type(chain), list)
            self.assertEqual(follow(ties, chain, start)[-1], name)

    def test_no_ties(self):
        self.assert_chains([], "a", {"a": []})
        self.assert_chains([], "vega", {"vega": []})

    def test_a_start_without_ties(self):
        self.assert_chains(WEB, "z", {"z": []})

    def test_one_tie_from_both_ends(self):
        ties = [(4, "a", "b", (1, 2, 3))]
        self.assert_chains(ties, "a", {"a": [], "b": [4]})
        self.assert_chains(ties, "b", {"b": [], "a": [4]})

    def test_the_written_web(self):
        self.assert_chains(WEB, "a", {"a": [], "b": [5], "c": [3], "d": [3, 20]})
        self.assert_chains(WEB, "b", {"b": [], "a": [5], "d": [12], "c": [5, 3]})
        self.assert_chains(WEB, "d", {"d": [], "b": [12], "c": [20], "a": [12, 5]})
        self.assert_chains(WEB, "f", {"f": [], "e": [31]})

    def test_several_between_the_same_two(self):
        ties = [(9, "a", "b", STILL), (2, "b", "a", (3, 1, 1)), (5, "a", "b", (1, 7, 7)), (4, "b", "c", STILL),
                (3, "c", "b", (1, 0, 0))]
        self.assert_chains(ties, "a", {"a": [], "b": [2], "c": [2, 3]})
        self.assert_chains(ties, "c", {"c": [], "b": [3], "a": [3, 2]})

    def test_fewest_ties_come_ahead_of_small_numbers(self):
        ties = [(1, "a", "b", STILL), (2, "b", "c", STILL), (3, "c", "d", STILL), (90, "a", "d", STILL)]
        self.assert_chains(ties, "a", {"a": [], "b": [1], "c": [1, 2], "d": [90]})
        self.assert_chains(ties, "d", {"d": [], "c": [3], "b": [3, 2], "a": [90]})

    def test_the_first_in_order_is_settled_by_the_first_number(self):
        ties = [(5, "a", "b", STILL), (1, "b", "d", STILL), (4, "a", "c", STILL), (9, "c", "d", STILL)]
        self.assert_chains(ties, "a", {"a": [], "b": [5], "c": [4], "d": [4, 9]})
        self.assert_chains(ties, "d", {"d": [], "b": [1], "c": [9], "a": [1, 5]})

    def test_order_is_that_of_numbers_not_of_texts_or_names(self):
        ties = [(10, "a", "b", STILL), (9, "a", "z", STILL), (100, "b", "m", STILL), (200, "z", "m", STILL)]
        self.assert_chains(ties, "a", {"a": [], "b": [10], "z": [9], "m": [9, 200]})

    def test_the_order_lasts_over_several_layers(self):
        # The name that comes late in the first layer by its number leads to the second layer's least ones.
        ties = [
            (8, "s", "a", STILL), (7, "s", "b", STILL),
            (1, "a", "c", STILL), (6, "b", "d", STILL),
            (2, "c", "e", STILL), (9, "d", "e", STILL),
        ]
        self.assert_chains(ties, "s", {"s": [], "a": [8], "b": [7], "c": [8, 1], "d": [7, 6], "e": [7, 6, 9]})

    def test_contradicting_motions_change_no_chain(self):
        for motion in [(0, 0, 0), (3, 5, 5), (6, -HUNDRED, HUNDRED)]:
            ties = [(2, "a", "b", STILL), (6, "a", "b", motion), (4, "b", "c", motion), (3, "c", "a", motion)]
            self.assert_chains(ties, "a", {"a": [], "b": [2], "c": [3]})

    def test_great_numbers(self):
        ties = [(HUNDRED, "a", "b", STILL), (OTHER_HUNDRED, "b", "a", STILL), (HUNDRED - 1, "b", "c", STILL)]
        self.assert_chains(ties, "a", {"a": [], "b": [OTHER_HUNDRED], "c": [OTHER_HUNDRED, HUNDRED - 1]})

    def test_any_order_of_the_list(self):
        for ties in itertools.permutations(WEB):
            self.assertEqual(chains(list(ties), "a"), {"a": [], "b": [5], "c": [3], "d": [3, 20]})

    def test_many_webs(self):
        rng = random.Random(11)
        for step in range(150):
            ties = random_ties(rng, "abcde", rng.randint(0, 6))
            for start in "abcdef":
                self.assert_chains(ties, start, expected_chains(ties, start))

    def test_thick_webs(self):
        rng = random.Random(12)
        for step in range(6):
            ties = random_ties(rng, "abcdefgh", 14)
            told = chains(ties, "a")
            short = {name: chain for name, chain in told.items() if len(chain) <= 3}
            self.assertEqual(short, expected_chains(ties, "a", longest=3))

    def test_a_long_row_of_plates(self):
        ties = [(number + 1, f"n{number}", f"n{number + 1}", (1, number, 0)) for number in range(400)]
        told = chains(ties[::-1], "n0")
        self.assertEqual(told["n400"], list(range(1, 401)))
        self.assertEqual(len(told), 401)

    def test_told_ones_changed_change_no_later_answer(self):
        ties = copy.deepcopy(WEB)
        told = chains(ties, "a")
        told["d"].append(99)
        told["a"].append(5)
        told["b"].clear()
        del told["c"]
        self.assertEqual(chains(ties, "a"), {"a": [], "b": [5], "c": [3], "d": [3, 20]})
        self.assertEqual(ties, WEB)

    def test_told_chains_are_lists_of_their_own(self):
        told = chains(WEB, "a")
        told["c"].append(99)
        self.assertEqual(told["d"], [3, 20])
        told["a"].append(99)
        self.assertEqual(told["b"], [5])


class WalkTest(WebCase):
    def assert_walk(self, ties, chain, start):
        told = walk(ties, chain, start)
        self.assertIs(type(told), tuple)
        name, motion = told
        self.assertEqual(name, follow(ties, chain, start)[-1])
        self.assert_leads(motion, ties, chain, start)

    def refuse(self, ties, chain, start):
        self.assertIsNone(follow(ties, chain, start))
        with self.assertRaises(BadChain):
            walk(ties, chain, start)

    def test_the_empty_chain(self):
        self.assertEqual(walk([], [], "a"), ("a", STILL))
        self.assertEqual(walk(WEB, [], "a"), ("a", STILL))
        self.assertEqual(walk(WEB, [], "nowhere"), ("nowhere", STILL))

    def test_one_tie_in_either_direction(self):
        ties = [(4, "a", "b", (1, 3, 4))]
        self.assertEqual(walk(ties, [4], "a"), ("b", (1, 3, 4)))
        # (1, 3, 4) leads (0, 0) to (3, 4) and (-4, 3) to (0, 0).
        self.assertEqual(walk(ties, [4], "b"), ("a", (3, -4, 3)))

    def test_two_ties_by_hand(self):
        ties = [(1, "a", "b", (1, 10, 0)), (2, "b", "c", (0, 2, 5))]
        # c's (0, 0) is b's (2, 5), and that is turned to (-5, 2) and comes to a's (5, 2).
        self.assertEqual(walk(ties, [1, 2], "a"), ("c", (1, 5, 2)))
        ties = [(1, "a", "b", (4, 10, 0)), (2, "c", "b", (0, 2, 5))]
        # c's (2, 5) is b's (0, 0), so c's (0, 0) is b's (-2, -5), mirrored and shifted a's (12, -5).
        self.assertEqual(walk(ties, [1, 2], "a"), ("c", (4, 12, -5)))

    def test_a_tie_used_again(self):
        self.assertEqual(walk(WEB, [7, 7], "a"), ("a", STILL))
        self.assertEqual(walk(WEB, [3, 3, 3, 3], "c"), ("c", STILL))
        self.assert_walk(WEB, [7, 7, 7], "b")
        self.assert_walk(WEB, [7, 5, 7, 5], "a")
        self.assert_walk(WEB, [7, 12, 20, 3, 7, 12], "a")

    def test_contradicting_ties_tell_unlike_motions(self):
        ties = [(1, "a", "b", (0, 1, 0)), (2, "a", "b", (0, 5, 0))]
        self.assertEqual(walk(ties, [1], "a"), ("b", (0, 1, 0)))
        self.assertEqual(walk(ties, [2], "a"), ("b", (0, 5, 0)))
        self.assertEqual(walk(ties, [1, 2], "a"), ("a", (0, -4, 0)))

    def test_a_number_of_no_tie(self):
        for number in (1, 0, -1, -7, 8, 99, HUNDRED, -HUNDRED):
            self.refuse(WEB, [number], "a")
            self.refuse(WEB, [7, number], "a")
            self.refuse(WEB, [7, number, 12], "a")
        self.refuse([], [1], "a")

    def test_a_tie_that_is_not_at_the_plate_come_to(self):
        self.refuse(WEB, [12], "a")
        self.refuse(WEB, [7, 3], "a")
        self.refuse(WEB, [7, 12, 7], "a")
        self.refuse(WEB, [31], "a")
        self.refuse(WEB, [5, 7, 31], "a")
        self.refuse(WEB, [7], "nowhere")
        self.refuse(WEB, [7, 12, 20, 20, 3], "a")

    def test_every_short_row_of_numbers(self):
        for start in "abcdefz":
            for length in range(4):
                for row in itertools.product([3, 4, 5, 7, 12, 20, 31], repeat=length):
                    if follow(WEB, row, start) is None:
                        self.refuse(WEB, list(row), start)
                    else:
                        self.assert_walk(WEB, list(row), start)

    def test_great_shifts(self):
        ties = [(1, "a", "b", (5, HUNDRED, -HUNDRED)), (2, "c", "b", (3, OTHER_HUNDRED, 1))]
        ties.append((3, "c", "d", (6, 0, HUNDRED)))
        for chain in ([1], [1, 2], [1, 2, 3], [1, 2, 3, 3, 2, 1]):
            self.assert_walk(ties, chain, "a")
        for chain in ([3], [3, 2], [3, 2, 1]):
            self.assert_walk(ties, chain, "d")

    def test_a_long_chain(self):
        ties = [(1, "a", "b", (1, 1, 0)), (2, "a", "b", (1, 0, 0))]
        chain = [1, 2] * 1000
        self.assert_walk(ties, chain, "a")

    def test_nothing_handed_in_changes(self):
        ties = copy.deepcopy(WEB)
        chain = [7, 12, 20]
        walk(ties, chain, "a")
        with self.assertRaises(BadChain):
            walk(ties, chain, "b")
        self.assertEqual((ties, chain), (WEB, [7, 12, 20]))


class FramesTest(WebCase):
    def test_no_ties(self):
        self.assertEqual(frames([], "a"), {"a": STILL})
        self.assertEqual(frames(WEB, "z"), {"z": STILL})

    def test_one_tie(self):
        ties = [(4, "a", "b", (1, 3, 4))]
        self.assertEqual(frames(ties, "a"), {"a": STILL, "b": (1, 3, 4)})
        self.assertEqual(frames(ties, "b"), {"b": STILL, "a": (3, -4, 3)})

    def test_the_told_chain_settles_it(self):
        ties = [(2, "a", "b", (0, 5, 0)), (1, "a", "b", (0, 1, 0)), (3, "b", "c", (0, 0, 2)), (4, "a", "c", (4, 9, 9))]
        self.assertEqual(frames(ties, "a"), {"a": STILL, "b": (0, 1, 0), "c": (4, 9, 9)})
        self.assertEqual(frames(ties[:3], "a"), {"a": STILL, "b": (0, 1, 0), "c": (0, 1, 2)})

    def test_many_webs(self):
        rng = random.Random(13)
        for step in range(150):
            ties = random_ties(rng, "abcdef", rng.randint(0, 9), far=10 ** rng.choice([1, 100]) - 1)
            for start in "abcdef":
                told = frames(ties, start)
                self.assertIs(type(told), dict)
                by_chain = chains(ties, start)
                self.assertEqual(sorted(told), sorted(by_chain))
                for name, motion in told.items():
                    self.assert_leads(motion, ties, by_chain[name], start)
                    self.assertEqual(walk(ties, by_chain[name], start), (name, motion))

    def test_a_told_dict_changed_changes_no_later_answer(self):
        ties = copy.deepcopy(WEB)
        first = frames(ties, "a")
        kept = dict(first)
        first["b"] = (7, 7, 7)
        del first["c"]
        self.assertEqual(frames(ties, "a"), kept)
        self.assertEqual(ties, WEB)


if __name__ == "__main__":
    unittest.main()

"""Sayings, as [3] and the interface's nightglass/sayings.py tell them."""

import itertools
import unittest

from oracle import BY_LEFT, SAYINGS, UNSEEN, expected_wide, left, left_by_all

from nightglass.errors import Denied
from nightglass.sayings import agree, joined, pool, widened


def short_lists():
    """Every list of one, two and three sayings."""
    return [list(row) for length in (1, 2, 3) for row in itertools.product(SAYINGS, repeat=length)]


class NineteenTest(unittest.TestCase):
    def test_no_two_leave_the_same(self):
        self.assertEqual(len(SAYINGS), 19)
        self.assertEqual(len(BY_LEFT), 19)


class AgreeTest(unittest.TestCase):
    def test_every_two(self):
        for one in SAYINGS:
            for other in SAYINGS:
                self.assertIs(agree(one, other), bool(left(one) & left(other)), (one, other))

    def test_written_ones(self):
        self.assertIs(agree(("star", 4), ("star", 4)), True)
        self.assertIs(agree(("star", 4), ("star", 5)), False)
        self.assertIs(agree(("star", 4), ("under", 5)), True)
        self.assertIs(agree(("under", 4), ("star", 4)), False)
        self.assertIs(agree(("under", 1), ("under", 9)), True)
        self.assertIs(agree(("star", 9), UNSEEN), True)


class JoinedTest(unittest.TestCase):
    def test_every_two(self):
        for one in SAYINGS:
            for other in SAYINGS:
                common = left(one) & left(other)
                if common:
                    told = joined(one, other)
                    self.assertEqual(told, BY_LEFT[common], (one, other))
                    self.assertIs(type(told), tuple)
                else:
                    with self.assertRaises(Denied):
                        joined(one, other)

    def test_written_ones(self):
        self.assertEqual(joined(("under", 5), ("star", 4)), ("star", 4))
        self.assertEqual(joined(("under", 5), ("under", 1)), ("under", 1))
        self.assertEqual(joined(UNSEEN, ("under", 9)), ("under", 9))
        self.assertEqual(joined(UNSEEN, UNSEEN), UNSEEN)
        with self.assertRaises(Denied):
            joined(("star", 1), ("under", 1))


class PoolTest(unittest.TestCase):
    def assert_pool(self, sayings):
        handed = list(sayings)
        common = left_by_all(sayings)
        if common:
            told = pool(handed)
            self.assertEqual(told, BY_LEFT[common], sayings)
            self.assertIs(type(told), tuple)
        else:
            with self.assertRaises(Denied):
                pool(handed)
        self.assertEqual(handed, list(sayings))

    def test_empty_list(self):
        self.assertEqual(pool([]), UNSEEN)

    def test_every_list_of_one_to_three(self):
        for row in short_lists():
            self.assert_pool(row)
            each_two = all(agree(one, other) for one, other in itertools.combinations(row, 2))
            self.assertEqual(bool(left_by_all(row)), each_two, row)

    def test_long_lists(self):
        unders = [("under", number) for number in (9, 7, 8, 5, 6, 9)] * 20
        self.assert_pool([UNSEEN] * 50)
        self.assert_pool(unders)
        self.assertEqual(pool(unders), ("under", 5))
        self.assert_pool(unders + [("star", 4)])
        self.assertEqual(pool([("star", 4)] + unders + [("star", 4)]), ("star", 4))

    def test_deniers_far_apart(self):
        between = [UNSEEN, ("under", 9), ("under", 8)] * 30
        for one, other in itertools.product(SAYINGS, repeat=2):
            self.assert_pool([one] + between + [other])
            self.assert_pool(between + [one] + between + [other] + between)
        with self.assertRaises(Denied):
            pool([("star", 7)] + between + [("under", 7)])
        with self.assertRaises(Denied):
            pool([("star", 2)] + between + [("star", 3)])

    def test_list_stays_as_handed_in(self):
        handed = [("under", 6), ("star", 2), UNSEEN]
        self.assertEqual(pool(handed), ("star", 2))
        self.assertEqual(handed, [("under", 6), ("star", 2), UNSEEN])
        handed.append(("star", 3))
        with self.assertRaises(Denied):
            pool(handed)
        self.assertEqual(handed, [("under", 6), ("star", 2), UNSEEN, ("star", 3)])


class WidenedTest(unittest.TestCase):
    def assert_widened(self, sayings):
        handed = list(sayings)
        told = widened(handed)
        self.assertEqual(told, expected_wide(sayings), sayings)
        self.assertIs(type(told), tuple)
        self.assertEqual(handed, list(sayings))

    def test_the_documents_example(self):
        self.assertEqual(widened([("star", 9), ("under", 3)]), UNSEEN)
        self.assertEqual(widened([("under", 3), ("star", 9)]), UNSEEN)

    def test_written_ones(self):
        self.assertEqual(widened([("star", 9)]), ("star", 9))
        self.assertEqual(widened([("under", 1)]), ("under", 1))
        self.assertEqual(widened([("star", 8), ("under", 3)]), ("under", 9))
        self.assertEqual(widened([("star", 1), ("star", 2)]), ("under", 3))
        self.assertEqual(widened([("star", 1), ("under", 1)]), ("under", 2))
        self.assertEqual(widened([("star", 8), ("star", 9)]), UNSEEN)

    def test_every_list_of_one_to_three(self):
        for row in short_lists():
            self.assert_widened(row)

    def test_many_alike(self):
        for saying in SAYINGS:
            self.assert_widened([saying] * 40)
            self.assertEqual(widened([saying] * 40), saying)

    def test_many_mixed(self):
        stars = [("star", number) for number in (3, 3, 5, 1, 3)] * 10
        self.assert_widened(stars)
        self.assert_widened(stars + [("under", 2)])
        for one, other in itertools.product(SAYINGS, repeat=2):
            self.assert_widened([one] * 15 + [other] + [one] * 15)
        self.assert_widened(SAYINGS)


if __name__ == "__main__":
    unittest.main()

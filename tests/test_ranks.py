"""Points 20, 21 and 23: the rank of a standing, and where it is told."""

import copy
import itertools
import unittest

from owinghall.bounds import middle
from owinghall.clearing import is_cleared
from owinghall.errors import BadStanding, TooWide
from owinghall.lendings import lent, less
from owinghall.ranks import rank
from owinghall.webs import made
from owinghall.weighing import alike
from tests.samples import (
    BIG, DOUBLE, FULL, HEAVY, KITE, LONG, ONE, PATH, RING, SQUARE, TRIANGLE, WHOLE_FOUR, PromptTest, all_of_sum, draw,
    ring_number, with_sum, wrong_lengths,
)
from tests.searches import cleared_by_search

PAIR = (2, [(0, 1)] * 9)
TWO_RINGS = (8, LONG[1] + [(0, 1), (6, 7)])
THETA = (8, LONG[1] + [(0, 7), (2, 6)])
FIVE = (5, [(0, 1), (1, 2), (2, 3), (3, 4), (0, 4), (0, 2), (1, 3)])
FOUR = (4, WHOLE_FOUR[1] + [(0, 3)])
THREE = (3, TRIANGLE[1] + [(0, 1), (0, 1), (1, 2), (0, 2)])
NARROW = [ONE, PATH, DOUBLE, TRIANGLE, SQUARE, WHOLE_FOUR, KITE, RING, LONG, PAIR, TWO_RINGS, THETA, FIVE, FOUR, THREE]
WIDE = [
    FULL, HEAVY, (2, [(0, 1)] * 10), (3, THREE[1] + [(0, 1)]), (4, FOUR[1] + [(0, 1)]), (5, FIVE[1] + [(0, 4)]),
    (6, [(k, k + 1) for k in range(5)] + [(0, 1)] * 3), (7, [(k, k + 1) for k in range(6)] + [(0, 6)] * 3),
    (8, LONG[1] + [(0, 1)] * 3),
]


def standings(shape, seed, reach):
    """Standings of sums from below nought to above twice the rings."""
    drawn = draw(f"rank {seed} {reach}", shape[0], reach)
    return [with_sum(drawn, total) for total in range(-2, 2 * ring_number(shape) + 2)]


def rank_by_point_twenty(web, standing, cleared):
    """The greatest number such that it is cleared behind each taking of so many coins; -1 where it is held."""
    many = -1
    while all(cleared(web, less(standing, taking)) for taking in all_of_sum(web[0], many + 1)):
        many += 1
    return many


class RankTest(PromptTest):
    def test_one_house(self):
        for number in (-BIG, -2, -1):
            self.assertEqual(rank(made(*ONE), [number]), -1)
        for number in (0, 1, 2, BIG):
            self.assertEqual(rank(made(*ONE), [number]), number)

    def test_webs_without_rings(self):
        for shape in (PATH, LONG):
            for total in (0, 1, 5, BIG):
                self.assertEqual(rank(made(*shape), with_sum(draw("tree", shape[0], BIG), total)), total)
            for total in (-1, -2, -BIG):
                self.assertEqual(rank(made(*shape), with_sum(draw("tree", shape[0], BIG), total)), -1)

    def test_one_ring(self):
        self.assertEqual(rank(made(*TRIANGLE), [0, 0, 0]), 0)
        self.assertEqual(rank(made(*TRIANGLE), [2, -1, -1]), 0)
        self.assertEqual(rank(made(*TRIANGLE), [1, -1, 0]), -1)
        self.assertEqual(rank(made(*TRIANGLE), [1, 0, 0]), 0)
        self.assertEqual(rank(made(*TRIANGLE), [0, 1, 1]), 1)
        self.assertEqual(rank(made(*RING), [0] * 8), 0)
        self.assertEqual(rank(made(*RING), [1, -1, 0, 0, 0, 0, 0, 0]), -1)
        self.assertEqual(rank(made(*RING), [0, 3, 0, 0, -1, 0, 0, 0]), 1)

    def test_several_rings_by_hand(self):
        self.assertEqual(rank(made(*DOUBLE), [1, 1]), 1)
        self.assertEqual(rank(made(*DOUBLE), [2, 0]), 0)
        self.assertEqual(rank(made(*DOUBLE), [-1, 2]), -1)
        self.assertEqual(rank(made(*DOUBLE), [3, 0]), 1)
        self.assertEqual(rank(made(*KITE), [0, 0, 0, 2]), 1)
        self.assertEqual(rank(made(*KITE), [2, 0, 0, 0]), 0)
        self.assertEqual(rank(made(*KITE), [0, 0, 0, 0]), 0)
        for many in range(8):
            self.assertEqual(rank(made(*PAIR), [many, many]), many)

    def test_the_middle_has_the_rings_less_one(self):
        for shape in NARROW:
            self.assertEqual(rank(made(*shape), middle(made(*shape))), ring_number(shape) - 1)

    def test_all_small_standings_against_all_takings(self):
        for shape in (ONE, PATH, DOUBLE, TRIANGLE):
            web = made(*shape)
            for standing in itertools.product(range(-1, 3), repeat=shape[0]):
                due = rank_by_point_twenty(web, list(standing), cleared_by_search)
                self.assertEqual(rank(web, list(standing)), due)

    def test_small_standings_of_more_webs_against_all_takings(self):
        for seed, shape in enumerate((SQUARE, KITE, WHOLE_FOUR, FOUR, THREE, FIVE, PAIR)):
            web = made(*shape)
            for standing in standings(shape, seed, 2):
                if sum(standing) <= 4:
                    due = rank_by_point_twenty(web, standing, cleared_by_search)
                    self.assertEqual(rank(web, standing), due)

    def test_small_and_great_standings_against_all_takings(self):
        for seed, shape in enumerate(NARROW):
            for standing in standings(shape, seed, 2) + standings(shape, seed, BIG):
                told = rank(made(*shape), standing)
                self.assertEqual(told, rank_by_point_twenty(made(*shape), standing, is_cleared))
                self.assertIs(type(told), int)

    def test_below_nought_just_where_it_is_held(self):
        for seed, shape in enumerate(NARROW):
            for standing in standings(shape, seed, 3) + standings(shape, seed, BIG):
                self.assertIs(rank(made(*shape), standing) == -1, not is_cleared(made(*shape), standing))
            for total in (-1, -2, -BIG):
                self.assertEqual(rank(made(*shape), with_sum(draw(f"owes {seed}", shape[0], BIG), total)), -1)

    def test_the_same_for_standings_that_are_alike(self):
        for seed, shape in enumerate(NARROW):
            web = made(*shape)
            for standing, reach in itertools.product(standings(shape, seed, 2), (2, BIG)):
                other = lent(web, standing, draw(f"script {seed}", shape[0], reach))
                self.assertEqual(rank(web, other), rank(web, standing))

    def test_one_more_coin_anywhere_makes_it_no_less_and_at_most_one_more(self):
        for seed, shape in enumerate(NARROW):
            web = made(*shape)
            for standing, house in itertools.product(standings(shape, seed, 2), range(shape[0])):
                more = list(standing)
                more[house] += 1
                self.assertIn(rank(web, more) - rank(web, standing), (0, 1))

    def test_less_that_of_what_it_lacks_to_the_middle_it_is_the_sum_less_the_rings_and_one(self):
        for seed, shape in enumerate(NARROW):
            web = made(*shape)
            for standing in standings(shape, seed, 2) + standings(shape, seed, BIG):
                lacks = less(middle(web), standing)
                due = sum(standing) - ring_number(shape) + 1
                self.assertEqual(rank(web, standing) - rank(web, lacks), due)

    def test_where_the_sum_is_more_than_twice_the_rings_less_two(self):
        for seed, shape in enumerate(NARROW):
            rings = ring_number(shape)
            for more, reach in itertools.product((1, 2, 1000, BIG), (2, BIG)):
                total = 2 * rings - 2 + more
                standing = with_sum(draw(f"more {seed}", shape[0], reach), total)
                self.assertEqual(rank(made(*shape), standing), total - rings)
            self.assertEqual(rank(made(*shape), [BIG] * shape[0]), shape[0] * BIG - rings)

    def test_at_twice_the_rings_less_two_only_what_is_alike_to_the_middle_has_more(self):
        for shape in (DOUBLE, TRIANGLE, SQUARE, KITE, PAIR, FOUR):
            web = made(*shape)
            seen = set()
            for seed in range(12):
                standing = with_sum(draw(f"edge {seed}", shape[0], 3), 2 * ring_number(shape) - 2)
                to_middle = alike(web, standing, middle(web))[0] == "lent"
                due = ring_number(shape) - 1 if to_middle else ring_number(shape) - 2
                self.assertEqual(rank(web, standing), due)
                seen.add(to_middle)
            self.assertIn(False, seen)

    def test_what_is_told_may_be_handed_in_again(self):
        web = made(*KITE)
        script = alike(web, [BIG, -BIG, 0, 0], lent(web, [BIG, -BIG, 0, 0], [0, BIG, BIG, -BIG]))[1]
        further = lent(web, script, script)
        self.assertGreater(max(further), BIG)
        for total in range(-1, 6):
            standing = with_sum(further, total)
            self.assertEqual(rank(web, standing), rank_by_point_twenty(web, standing, is_cleared))

    def test_a_standing_stays_as_it_was(self):
        for shape in NARROW:
            for standing in standings(shape, "stays", 3):
                before = copy.deepcopy(standing)
                rank(made(*shape), standing)
                self.assertEqual(standing, before)


class RefusalsTest(PromptTest):
    def test_a_standing_of_another_length(self):
        for shape in NARROW:
            for wrong in wrong_lengths(shape[0]):
                self.assertRaises(BadStanding, rank, made(*shape), wrong)

    def test_houses_times_rings_of_sixteen_are_told(self):
        for shape in (PAIR, FOUR, TWO_RINGS, THETA):
            self.assertEqual(shape[0] * ring_number(shape), 16)
            self.assertEqual(rank(made(*shape), [0] * shape[0]), 0)

    def test_houses_times_rings_above_sixteen(self):
        for shape in WIDE:
            self.assertGreater(shape[0] * ring_number(shape), 16)
            for number in (0, 1, -1, BIG, -BIG):
                self.assertRaises(TooWide, rank, made(*shape), [number] * shape[0])

    def test_bad_standing_is_raised_ahead_of_too_wide(self):
        for shape in WIDE:
            for wrong in wrong_lengths(shape[0]):
                self.assertRaises(BadStanding, rank, made(*shape), wrong)


if __name__ == "__main__":
    unittest.main()

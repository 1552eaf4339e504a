"""Points 17 to 19: the bound of an order, the middle of a web, all bounds, and the room of a standing."""

import copy
import itertools
import unittest

from owinghall.bounds import bound, bounds, middle, room
from owinghall.clearing import holds, is_cleared, paper
from owinghall.errors import BadOrder, BadStanding, TooWide
from owinghall.lendings import lent, less
from owinghall.webs import made
from owinghall.weighing import alike
from tests.samples import (
    ALL, BIG, DOUBLE, FULL, HEAVY, KITE, LONG, ONE, PATH, RING, SQUARE, TRIANGLE, WHOLE_FOUR, PromptTest,
    at_once, bound_by_point_seventeen, draw, ends_across, ring_number, with_sum, wrong_lengths, wrong_orders,
)

FIVE = (5, [(0, 1), (1, 2), (2, 3), (3, 4), (0, 4), (0, 2), (0, 2)])
SHAPES = ALL + [SQUARE, WHOLE_FOUR, FIVE, LONG, HEAVY]
SMALL = [shape for shape in SHAPES if shape[0] <= 5]


def orders(houses):
    """All orders of few houses, some of many."""
    if houses <= 5:
        return [list(order) for order in itertools.permutations(range(houses))]
    told = [list(range(houses)), list(range(houses))[::-1]]
    for seed in range(40):
        told.append(sorted(range(houses), key=lambda house: draw(f"order {seed} {house}", 1, BIG)))
    return told


def standings(shape, seed):
    """Small and great standings, most of them of sums at which some are held."""
    houses = shape[0]
    told = [[0] * houses, [-1] * houses, [BIG] * houses, [-BIG] * houses]
    for reach in (2, 30, BIG):
        drawn = draw(f"bounds {seed} {reach}", houses, reach)
        told += [drawn] + [with_sum(drawn, total) for total in range(-2, ring_number(shape) + 1)]
    return told


def are_alike(web, one, other):
    return alike(web, one, other)[0] == "lent"


class BoundTest(PromptTest):
    def test_by_hand(self):
        self.assertEqual(bound(made(*ONE), [0]), [-1])
        self.assertEqual(bound(made(*PATH), [0, 1, 2]), [-1, 0, 0])
        self.assertEqual(bound(made(*PATH), [2, 0, 1]), [-1, 1, -1])
        self.assertEqual(bound(made(*DOUBLE), [0, 1]), [-1, 2])
        self.assertEqual(bound(made(*DOUBLE), [1, 0]), [2, -1])
        self.assertEqual(bound(made(*KITE), [0, 1, 2, 3]), [-1, 1, 1, 1])
        self.assertEqual(bound(made(*KITE), [3, 0, 2, 1]), [-1, 2, 2, -1])
        self.assertEqual(bound(made(*KITE), [2, 3, 1, 0]), [2, 0, -1, 1])
        self.assertEqual(bound(made(*RING), [0, 1, 2, 3, 4, 5, 6, 7]), [-1, 0, 0, 0, 0, 0, 0, 1])

    def test_in_the_words_of_the_document(self):
        for shape in SHAPES:
            for order in orders(shape[0]):
                told = bound(made(*shape), order)
                self.assertEqual(told, bound_by_point_seventeen(*shape, order))
                self.assertIs(type(told), list)

    def test_its_sum_is_the_rings_less_one(self):
        for shape in SHAPES:
            for order in orders(shape[0]):
                self.assertEqual(sum(bound(made(*shape), order)), ring_number(shape) - 1)

    def test_with_that_of_the_order_turned_about_it_comes_to_the_middle(self):
        for shape in SHAPES:
            web = made(*shape)
            for order in orders(shape[0]):
                both = zip(bound(web, order), bound(web, order[::-1]))
                self.assertEqual([one + other for one, other in both], middle(web))

    def test_it_is_never_cleared_and_its_order_holds_it(self):
        for shape in SHAPES:
            web = made(*shape)
            for order in orders(shape[0]):
                told = bound(web, order)
                self.assertIs(is_cleared(web, told), False)
                self.assertIs(holds(web, told, [0] * shape[0], order), True)

    def test_a_list_that_is_not_all_houses_each_once(self):
        for shape in SHAPES:
            for wrong in wrong_orders(shape[0]):
                self.assertRaises(BadOrder, bound, made(*shape), wrong)

    def test_wrong_orders_by_hand(self):
        web = made(*TRIANGLE)
        for wrong in ([], [0, 1], [0, 1, 2, 0], [0, 1, 2, 3], [0, 1, 1], [1, 2, 3], [0, 1, -1], [2, 2, 2], [BIG, 0, 1]):
            self.assertRaises(BadOrder, bound, web, wrong)


class MiddleTest(PromptTest):
    def test_by_hand(self):
        self.assertEqual(middle(made(*ONE)), [-2])
        self.assertEqual(middle(made(*PATH)), [-1, 0, -1])
        self.assertEqual(middle(made(*DOUBLE)), [1, 1])
        self.assertEqual(middle(made(*KITE)), [1, 1, 2, 0])
        self.assertEqual(middle(made(*RING)), [0] * 8)
        self.assertEqual(middle(made(*FULL)), [2] * 8)

    def test_each_house_has_its_degree_less_two(self):
        for houses, ties in SHAPES:
            due = [len(ends_across(ties, house)) - 2 for house in range(houses)]
            told = middle(made(houses, ties))
            self.assertEqual(told, due)
            self.assertIs(type(told), list)
            self.assertEqual(sum(told), 2 * ring_number((houses, ties)) - 2)


class BoundsTest(PromptTest):
    def test_by_hand(self):
        self.assertEqual(bounds(made(*ONE)), [[-1]])
        self.assertEqual(bounds(made(*DOUBLE)), [[-1, 2], [2, -1]])
        self.assertEqual(bounds(made(*PATH)), [[-1, 0, 0], [-1, 1, -1], [0, -1, 0], [0, 0, -1]])
        due = [[-1, 0, 1], [-1, 1, 0], [0, -1, 1], [0, 1, -1], [1, -1, 0], [1, 0, -1]]
        self.assertEqual(bounds(made(*TRIANGLE)), due)

    def test_each_unlike_one_once_ascending(self):
        for shape in SMALL:
            told = bounds(made(*shape))
            found = {tuple(bound_by_point_seventeen(*shape, order)) for order in orders(shape[0])}
            self.assertEqual(told, [list(numbers) for numbers in sorted(found)])
            self.assertIs(type(told), list)
            self.assertEqual({type(numbers) for numbers in told}, {list})

    def test_more_than_five_houses(self):
        self.assertEqual(len(bounds(made(5, list(itertools.combinations(range(5), 2))))), 120)
        for houses in (6, 7, 8):
            self.assertRaises(TooWide, bounds, made(houses, [(k, k + 1) for k in range(houses - 1)]))
        for shape in (RING, FULL, LONG, HEAVY):
            self.assertRaises(TooWide, bounds, made(*shape))


class HeldTest(PromptTest):
    def test_held_just_where_alike_to_one_that_has_nowhere_more_than_some_bound(self):
        for shape in (ONE, PATH, DOUBLE, TRIANGLE):
            houses = shape[0]
            web = made(*shape)
            most = bounds(web)
            for standing in itertools.product(range(-2, 3), repeat=houses):
                # Enough scripts for numbers as small as these.
                scripts = [[0] + list(rest) for rest in itertools.product(range(-5, 6), repeat=houses - 1)]
                behind = [lent(web, list(standing), script) for script in scripts]
                below = [told for told in behind for top in most if all(a <= b for a, b in zip(told, top))]
                self.assertIs(is_cleared(web, list(standing)), not below, (shape, standing))

    def test_of_the_sum_of_the_bounds_held_just_where_alike_to_a_bound(self):
        for shape in (ONE, PATH, DOUBLE, TRIANGLE, SQUARE, KITE, WHOLE_FOUR):
            web = made(*shape)
            most = bounds(web)
            seen = set()
            for seed, reach in itertools.product(range(20), (2, BIG)):
                standing = with_sum(draw(f"half {seed}", shape[0], reach), ring_number(shape) - 1)
                to_a_bound = any(are_alike(web, standing, told) for told in most)
                self.assertIs(is_cleared(web, standing), not to_a_bound)
                seen.add(to_a_bound)
            self.assertEqual(seen, {True} if ring_number(shape) == 0 else {True, False})

    def test_of_that_sum_what_is_held_by_its_told_paper_is_the_bound_itself(self):
        found = 0
        for seed, shape in enumerate(SHAPES):
            web = made(*shape)
            for place, reach in itertools.product(range(6), (2, BIG)):
                standing = with_sum(draw(f"itself {seed} {place}", shape[0], reach), ring_number(shape) - 1)
                told = paper(web, standing)
                if told[0] == "held":
                    self.assertEqual(lent(web, standing, told[1]), bound(web, told[2]))
                    self.assertEqual(room(web, standing), [0] * shape[0])
                    found += 1
        self.assertGreater(found, 40)

    def test_of_that_sum_cleared_just_where_what_it_lacks_to_the_middle_is(self):
        seen = set()
        for seed, shape in enumerate(SHAPES):
            web = made(*shape)
            for place, reach in itertools.product(range(6), (2, BIG)):
                standing = with_sum(draw(f"lacks {seed} {place}", shape[0], reach), ring_number(shape) - 1)
                told = is_cleared(web, standing)
                self.assertIs(is_cleared(web, less(middle(web), standing)), told)
                seen.add(told)
        self.assertEqual(seen, {True, False})


class RoomTest(PromptTest):
    @classmethod
    def setUpClass(cls):
        cls.held = []
        with at_once():
            for seed, shape in enumerate(SHAPES):
                web = made(*shape)
                for standing in standings(shape, seed):
                    if not is_cleared(web, standing):
                        cls.held.append((shape, web, standing, room(web, standing)))

    def test_by_hand(self):
        self.assertEqual(room(made(*ONE), [-1]), [0])
        self.assertEqual(room(made(*ONE), [-BIG]), [BIG - 1])
        self.assertEqual(room(made(*DOUBLE), [-1, -1]), [3, 0])
        self.assertEqual(room(made(*KITE), [-1, 1, 0, 1]), [0, 0, 1, 0])
        self.assertEqual(room(made(*TRIANGLE), [1, -1, 0]), [0, 0, 0])
        self.assertEqual(room(made(*PATH), [0, 0, -3]), [2, 0, 0])

    def test_none_where_it_is_cleared(self):
        self.assertIsNone(room(made(*ONE), [0]))
        self.assertIsNone(room(made(*KITE), [-1, 2, 1, 0]))
        self.assertIsNone(room(made(*FULL), [BIG] * 8))
        for seed, shape in enumerate(SHAPES):
            for standing in standings(shape, seed):
                self.assertIs(room(made(*shape), standing) is None, is_cleared(made(*shape), standing))

    def test_what_the_told_paper_leaves_from_nought_on(self):
        for shape, web, standing, told in self.held:
            form, script, order = paper(web, standing)
            most = bound_by_point_seventeen(*shape, order)
            self.assertEqual(told, [top - had for top, had in zip(most, lent(web, standing, script))])
            self.assertGreaterEqual(min(told), 0)
            self.assertIs(type(told), list)
            self.assertEqual(sum(told), ring_number(shape) - 1 - sum(standing))

    def test_given_all_of_it_alike_to_a_bound_and_still_held(self):
        for shape, web, standing, told in self.held:
            given = [had + more for had, more in zip(standing, told)]
            self.assertTrue(are_alike(web, given, bound(web, paper(web, standing)[2])))
            self.assertIs(is_cleared(web, given), False)
            self.assertEqual(room(web, given), [0] * shape[0])

    def test_given_some_of_it_still_held(self):
        for shape, web, standing, told in self.held:
            half = [had + more // 2 for had, more in zip(standing, told)]
            self.assertIs(is_cleared(web, half), False)
            for house in range(shape[0]):
                one = list(standing)
                one[house] += told[house]
                self.assertIs(is_cleared(web, one), False)

    def test_a_standing_of_another_length(self):
        for shape in SHAPES:
            for wrong in wrong_lengths(shape[0]):
                self.assertRaises(BadStanding, room, made(*shape), wrong)

    def test_what_is_handed_in_stays(self):
        for shape in SHAPES:
            for standing in standings(shape, "stays"):
                before = copy.deepcopy(standing)
                told = room(made(*shape), standing)
                self.assertEqual(standing, before)
                self.assertIsNot(told, standing)


if __name__ == "__main__":
    unittest.main()

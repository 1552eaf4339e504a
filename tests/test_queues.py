"""Points 12 to 14: the queue of a house, the houses outside it, and standings that are plain for a house."""

import itertools
import unittest

from owinghall.errors import BadHouse, BadStanding
from owinghall.lendings import lent
from owinghall.queues import is_plain, outside, queue
from owinghall.webs import made
from owinghall.weighing import alike, kinds
from tests.samples import (
    ALL, BIG, DOUBLE, FULL, KITE, ONE, PATH, RING, TRIANGLE, draw, groups_without, queue_by_point_twelve,
)

STAR = (4, [(0, 1), (0, 2), (0, 3)])


def can_lend(web, standing, group):
    behind = lent(web, standing, [1 if house in group else 0 for house in range(web[0])])
    return all(behind[house] >= 0 for house in group)


def asked():
    """Each web with small and great standings and each of its houses."""
    for place, shape in enumerate(ALL + [STAR]):
        houses = shape[0]
        standings = [[0] * houses, [BIG] * houses, [-BIG] * houses, [1] * houses]
        for seed in range(12):
            standings.append([abs(number) for number in draw(f"holds {place} {seed}", houses, 3)])
            standings.append(draw(f"owes {place} {seed}", houses, 2))
        standings.append(draw(f"great {place}", houses, BIG))
        for standing, house in itertools.product(standings, range(houses)):
            yield shape, standing, house


class QueueTest(unittest.TestCase):
    def test_it_begins_with_the_house(self):
        self.assertEqual(queue(made(*ONE), [0], 0), [0])
        self.assertEqual(queue(made(*ONE), [-BIG], 0), [0])
        self.assertEqual(queue(made(*ONE), [BIG], 0), [0])
        for house in range(4):
            self.assertEqual(queue(made(*KITE), [9, 9, 9, 9], house), [house])

    def test_the_least_of_those_that_may_join_is_next(self):
        self.assertEqual(queue(made(*STAR), [0, 0, 0, 0], 0), [0, 1, 2, 3])
        self.assertEqual(queue(made(*STAR), [0, 0, 0, 0], 3), [3, 0, 1, 2])
        self.assertEqual(queue(made(*RING), [0] * 8, 4), [4, 3, 2, 1, 0, 5, 6, 7])
        self.assertEqual(queue(made(*RING), [0] * 8, 0), [0, 1, 2, 3, 4, 5, 6, 7])
        self.assertEqual(queue(made(*RING), [0, 1, 0, 0, 0, 0, 0, 0], 0), [0, 7, 6, 5, 4, 3, 2, 1])

    def test_a_house_that_came_to_may_join_stands_ahead_of_greater_ones(self):
        # House 1 may join only behind house 2, and then ahead of house 3, which could have joined all along.
        self.assertEqual(queue(made(4, [(0, 2), (0, 3), (1, 2)]), [0, 0, 0, 0], 0), [0, 2, 1, 3])

    def test_ties_to_the_queue_are_counted_each(self):
        self.assertEqual(queue(made(*DOUBLE), [0, 2], 0), [0, 1])
        self.assertEqual(queue(made(*DOUBLE), [0, 3], 0), [0])
        self.assertEqual(queue(made(*TRIANGLE), [0, 0, 1], 0), [0, 1, 2])
        self.assertEqual(queue(made(*TRIANGLE), [0, 1, 1], 0), [0])
        self.assertEqual(queue(made(*KITE), [0, 1, 1, 1], 0), [0, 1, 2, 3])
        self.assertEqual(queue(made(*KITE), [0, 1, 2, 1], 0), [0, 1])

    def test_what_the_house_itself_has_makes_no_difference(self):
        for number in (-BIG, -1, 0, 1, BIG):
            self.assertEqual(queue(made(*KITE), [number, 1, 1, 1], 0), [0, 1, 2, 3])
            self.assertEqual(queue(made(*KITE), [number, 1, 2, 1], 0), [0, 1])

    def test_owing_houses_join_without_ties_to_the_queue(self):
        self.assertEqual(queue(made(*PATH), [0, 5, -1], 0), [0, 2])
        self.assertEqual(queue(made(*PATH), [0, 1, -1], 0), [0, 2, 1])
        self.assertEqual(queue(made(*PATH), [-1, -1, -1], 2), [2, 0, 1])
        self.assertEqual(queue(made(*RING), [9, 9, 9, -1, 9, -BIG, 1, 9], 0), [0, 3, 5])

    def test_numbers_of_many_figures(self):
        self.assertEqual(queue(made(*FULL), [BIG] * 8, 3), [3])
        self.assertEqual(queue(made(*FULL), [-BIG] * 8, 3), [3, 0, 1, 2, 4, 5, 6, 7])
        self.assertEqual(queue(made(*PATH), [BIG, 0, -BIG], 1), [1, 2])

    def test_in_the_words_of_the_document(self):
        for shape, standing, house in asked():
            told = queue(made(*shape), standing, house)
            self.assertEqual(told, queue_by_point_twelve(*shape, standing, house))
            self.assertIs(type(told), list)

    def test_all_small_standings_of_some_webs(self):
        for shape in (PATH, DOUBLE, TRIANGLE, KITE):
            for standing in itertools.product(range(-1, 4), repeat=shape[0]):
                for house in range(shape[0]):
                    due = queue_by_point_twelve(*shape, list(standing), house)
                    self.assertEqual(queue(made(*shape), list(standing), house), due)


class OutsideTest(unittest.TestCase):
    def test_ascending(self):
        self.assertEqual(outside(made(*KITE), [9, 9, 9, 9], 2), [0, 1, 3])
        self.assertEqual(outside(made(*KITE), [0, 1, 2, 1], 0), [2, 3])
        self.assertEqual(outside(made(*RING), [9, 9, 9, -1, 9, -BIG, 1, 9], 0), [1, 2, 4, 6, 7])

    def test_empty_where_all_are_in_the_queue(self):
        self.assertEqual(outside(made(*ONE), [7], 0), [])
        self.assertEqual(outside(made(*KITE), [0, 1, 1, 1], 0), [])
        self.assertEqual(outside(made(*FULL), [0] * 8, 5), [])

    def test_all_others_and_no_more(self):
        for shape, standing, house in asked():
            inside = queue_by_point_twelve(*shape, standing, house)
            told = outside(made(*shape), standing, house)
            self.assertEqual(told, [other for other in range(shape[0]) if other not in inside])
            self.assertIs(type(told), list)

    def test_they_can_lend_together_and_every_group_that_can_is_a_part_of_them(self):
        for shape, standing, house in asked():
            web = made(*shape)
            told = outside(web, standing, house)
            if told:
                self.assertTrue(can_lend(web, standing, told))
            for group in groups_without(shape[0], house):
                if can_lend(web, standing, group):
                    self.assertLessEqual(set(group), set(told))


class IsPlainTest(unittest.TestCase):
    def test_plain(self):
        self.assertIs(is_plain(made(*KITE), [0, 1, 1, 1], 0), True)
        self.assertIs(is_plain(made(*KITE), [0, 0, 0, 0], 3), True)
        self.assertIs(is_plain(made(*DOUBLE), [BIG, 2], 0), True)
        self.assertIs(is_plain(made(*PATH), [0, 0, 5], 2), True)

    def test_the_house_itself_may_owe(self):
        self.assertIs(is_plain(made(*ONE), [-3], 0), True)
        self.assertIs(is_plain(made(*ONE), [BIG], 0), True)
        self.assertIs(is_plain(made(*KITE), [-BIG, 1, 1, 1], 0), True)
        self.assertIs(is_plain(made(*PATH), [0, -1, 0], 1), True)

    def test_no_other_may_owe(self):
        self.assertIs(is_plain(made(*PATH), [0, -1, 0], 0), False)
        self.assertIs(is_plain(made(*PATH), [-1, 0, 0], 1), False)
        self.assertIs(is_plain(made(*PATH), [0, 0, -BIG], 0), False)
        self.assertIs(is_plain(made(*DOUBLE), [-1, -1], 0), False)

    def test_where_a_house_is_not_in_the_queue(self):
        self.assertIs(is_plain(made(*DOUBLE), [0, 3], 0), False)
        self.assertIs(is_plain(made(*TRIANGLE), [0, 1, 1], 0), False)
        self.assertIs(is_plain(made(*KITE), [0, 1, 2, 1], 0), False)
        self.assertIs(is_plain(made(*PATH), [BIG, 0, 0], 2), False)

    def test_in_the_words_of_the_document(self):
        told = set()
        for shape, standing, house in asked():
            owing = [other for other in range(shape[0]) if other != house and standing[other] < 0]
            all_in = len(queue_by_point_twelve(*shape, standing, house)) == shape[0]
            due = not owing and all_in
            self.assertIs(is_plain(made(*shape), standing, house), due)
            told.add((bool(owing), all_in))
        self.assertEqual(len(told), 4)

    def test_plain_just_where_nobody_else_owes_and_no_group_without_the_house_can_lend(self):
        for shape, standing, house in asked():
            web = made(*shape)
            due = all(standing[other] >= 0 for other in range(shape[0]) if other != house)
            due = due and not any(can_lend(web, standing, group) for group in groups_without(shape[0], house))
            self.assertIs(is_plain(web, standing, house), due)

    def test_each_kind_has_just_one_plain_standing_of_a_sum(self):
        for shape in (ONE, PATH, DOUBLE, TRIANGLE, KITE):
            houses = shape[0]
            web = made(*shape)
            for house in range(houses):
                found = []
                for rest in itertools.product(range(4), repeat=houses - 1):
                    standing = list(rest[:house]) + [-sum(rest)] + list(rest[house:])
                    if is_plain(web, standing, house):
                        found.append(standing)
                self.assertEqual(len(found), kinds(web))
                for one, other in itertools.combinations(found, 2):
                    self.assertEqual(alike(web, one, other)[0], "weighed")


class RefusalsTest(unittest.TestCase):
    def test_a_standing_of_another_length(self):
        for shape in ALL:
            houses = shape[0]
            for question, many in itertools.product((queue, outside, is_plain), range(houses + 3)):
                if many != houses:
                    self.assertRaises(BadStanding, question, made(*shape), [0] * many, 0)

    def test_no_house(self):
        for shape in ALL:
            houses = shape[0]
            for question, wrong in itertools.product((queue, outside, is_plain), (-1, -houses, houses, BIG, -BIG)):
                self.assertRaises(BadHouse, question, made(*shape), [0] * houses, wrong)
                self.assertRaises(BadHouse, question, made(*shape), [BIG] * houses, wrong)

    def test_bad_standing_is_raised_ahead_of_bad_house(self):
        for question, wrong in itertools.product((queue, outside, is_plain), (-1, 4, BIG, -BIG)):
            for standing in ([], [0] * 3, [0] * 5):
                self.assertRaises(BadStanding, question, made(*KITE), standing, wrong)


if __name__ == "__main__":
    unittest.main()

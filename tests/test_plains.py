"""Points 13 and 14: the plain form of a standing for a house, and the one script that leads there."""

import copy
import itertools
import unittest

from owinghall.errors import BadHouse, BadStanding
from owinghall.lendings import lent
from owinghall.plains import plain
from owinghall.queues import is_plain
from owinghall.webs import made
from owinghall.weighing import alike
from tests.samples import (
    ALL, BIG, DOUBLE, FULL, HEAVY, KITE, LONG, ONE, PATH, RING, SQUARE, TRIANGLE, WHOLE_FOUR, PromptTest,
    behind_by_point_seven, draw, groups_without, queue_by_point_twelve, wrong_lengths,
)

SHAPES = ALL + [SQUARE, WHOLE_FOUR, LONG, HEAVY]


def standings(shape, seed):
    """Small and great standings, either side of nought."""
    houses = shape[0]
    told = [[0] * houses, [1] * houses, [-1] * houses, [BIG] * houses, [-BIG] * houses]
    told.append([BIG if k % 2 else -BIG for k in range(houses)])
    told.append([0] * (houses - 1) + [BIG])
    told.append([-BIG] + [0] * (houses - 1))
    for reach in (1, 3, 40, 10 ** 9, BIG):
        told.append(draw(f"plain {seed} {reach}", houses, reach))
        told.append([abs(number) for number in draw(f"holds {seed} {reach}", houses, reach)])
    return told


class PlainTest(PromptTest):
    def is_the_plain_form(self, shape, standing, house, told):
        houses = shape[0]
        self.assertIs(type(told), tuple)
        self.assertEqual([type(part) for part in told], [list, list])
        form, script = told
        self.assertEqual([type(number) for number in form + script], [int] * (2 * houses))
        self.assertEqual(len(script), houses)
        self.assertEqual(script[house], 0)
        self.assertEqual(form, behind_by_point_seven(*shape, standing, script))
        self.assertEqual([other for other in range(houses) if other != house and form[other] < 0], [])
        self.assertEqual(sorted(queue_by_point_twelve(*shape, form, house)), list(range(houses)))

    def test_by_hand(self):
        self.assertEqual(plain(made(*TRIANGLE), [0, 3, 0], 0), ([3, 0, 0], [0, 2, 1]))
        self.assertEqual(plain(made(*TRIANGLE), [2, -1, -1], 0), ([0, 0, 0], [0, -1, -1]))
        self.assertEqual(plain(made(*TRIANGLE), [2, -1, -1], 1), ([0, 0, 0], [1, 0, 0]))
        self.assertEqual(plain(made(*TRIANGLE), [1, -1, 0], 2), ([0, 1, -1], [0, -1, 0]))
        self.assertEqual(plain(made(*DOUBLE), [-1, -1], 0), ([-4, 2], [0, -1]))
        self.assertEqual(plain(made(*DOUBLE), [-1, -1], 1), ([2, -4], [-1, 0]))
        self.assertEqual(plain(made(*DOUBLE), [0, 4], 0), ([3, 1], [0, 1]))
        self.assertEqual(plain(made(*PATH), [5, -2, -1], 2), ([0, 0, 2], [8, 3, 0]))
        self.assertEqual(plain(made(*KITE), [0, 0, 4, 0], 0), ([2, 2, 0, 0], [0, 0, 2, 2]))
        self.assertEqual(plain(made(*KITE), [0, 0, 4, 0], 3), ([0, 0, 0, 4], [2, 2, 2, 0]))

    def test_one_house(self):
        for number in (-BIG, -1, 0, 1, BIG):
            self.assertEqual(plain(made(*ONE), [number], 0), ([number], [0]))

    def test_one_that_is_plain_already_stays(self):
        for shape, house in ((KITE, 0), (TRIANGLE, 2), (RING, 5), (FULL, 3)):
            for number in (-BIG, -1, 0, 7, BIG):
                standing = [0] * shape[0]
                standing[house] = number
                self.assertEqual(plain(made(*shape), standing, house), (standing, [0] * shape[0]))
        self.assertEqual(plain(made(*KITE), [-1, 1, 0, 1], 0), ([-1, 1, 0, 1], [0, 0, 0, 0]))

    def test_all_small_standings_of_some_webs(self):
        for shape in (ONE, PATH, DOUBLE, TRIANGLE, SQUARE, KITE):
            web = made(*shape)
            for standing in itertools.product(range(-2, 3), repeat=shape[0]):
                for house in range(shape[0]):
                    self.is_the_plain_form(shape, list(standing), house, plain(web, list(standing), house))

    def test_many_webs_with_small_and_great_numbers(self):
        for seed, shape in enumerate(SHAPES):
            web = made(*shape)
            for standing, house in itertools.product(standings(shape, seed), range(shape[0])):
                self.is_the_plain_form(shape, standing, house, plain(web, standing, house))

    def test_great_numbers_by_hand(self):
        self.assertEqual(plain(made(*PATH), [BIG, 0, -BIG], 0), ([0, 0, 0], [0, -BIG, -2 * BIG]))
        self.assertEqual(plain(made(*PATH), [-BIG, 0, -1], 1), ([0, -BIG - 1, 0], [-BIG, 0, -1]))
        self.assertEqual(plain(made(*DOUBLE), [0, BIG], 0), ([BIG, 0], [0, BIG // 3]))
        self.assertEqual(plain(made(*DOUBLE), [0, -BIG - 1], 0), ([-BIG - 3, 2], [0, -BIG // 3 - 1]))

    def test_what_is_told_may_be_handed_in_again(self):
        for shape in (KITE, FULL, HEAVY):
            web = made(*shape)
            form, script = plain(web, draw("again", shape[0], BIG), 1)
            further = lent(web, script, script)
            self.is_the_plain_form(shape, further, 2, plain(web, further, 2))
            self.assertEqual(plain(web, form, 1), (form, [0] * shape[0]))

    def test_the_same_form_for_standings_that_are_alike(self):
        for seed, shape in enumerate(SHAPES):
            web = made(*shape)
            for reach in (2, 10 ** 6, BIG):
                one = draw(f"one {seed}", shape[0], reach)
                other = lent(web, one, draw(f"script {seed}", shape[0], reach))
                for house in range(shape[0]):
                    self.assertEqual(plain(web, one, house)[0], plain(web, other, house)[0])

    def test_unlike_forms_for_standings_that_are_not_alike(self):
        for shape in (DOUBLE, TRIANGLE, KITE):
            web = made(*shape)
            drawn = [draw(f"unlike {seed}", shape[0], 3) for seed in range(30)]
            for one, other in itertools.combinations(drawn, 2):
                are_alike = alike(web, one, other)[0] == "lent"
                for house in range(shape[0]):
                    self.assertIs(plain(web, one, house)[0] == plain(web, other, house)[0], are_alike)

    def test_there_is_just_one_plain_standing_that_is_alike(self):
        for shape in (PATH, DOUBLE, TRIANGLE, SQUARE, KITE):
            web = made(*shape)
            standing = draw("just one", shape[0], 9)
            for house in range(shape[0]):
                found = []
                for rest in itertools.product(range(5), repeat=shape[0] - 1):
                    form = list(rest[:house]) + [sum(standing) - sum(rest)] + list(rest[house:])
                    if is_plain(web, form, house) and alike(web, standing, form)[0] == "lent":
                        found.append(form)
                self.assertEqual(found, [plain(web, standing, house)[0]])

    def test_in_it_no_group_without_the_house_can_lend(self):
        for seed, shape in enumerate(SHAPES):
            web = made(*shape)
            standing = draw(f"groups {seed}", shape[0], BIG)
            for house in range(shape[0]):
                form = plain(web, standing, house)[0]
                for group in groups_without(shape[0], house):
                    behind = lent(web, form, [1 if other in group else 0 for other in range(shape[0])])
                    self.assertTrue(any(behind[other] < 0 for other in group))

    def test_a_standing_stays_as_it_was(self):
        for shape in SHAPES:
            for standing in standings(shape, "stays"):
                before = copy.deepcopy(standing)
                told = plain(made(*shape), standing, 0)
                self.assertEqual(standing, before)
                self.assertIsNot(told[0], standing)
                self.assertIsNot(told[0], told[1])


class RefusalsTest(PromptTest):
    def test_a_standing_of_another_length(self):
        for shape in SHAPES:
            for wrong in wrong_lengths(shape[0]):
                self.assertRaises(BadStanding, plain, made(*shape), wrong, 0)

    def test_no_house(self):
        for shape in SHAPES:
            houses = shape[0]
            for wrong in (-1, -houses, houses, houses + 1, BIG, -BIG):
                self.assertRaises(BadHouse, plain, made(*shape), [0] * houses, wrong)
                self.assertRaises(BadHouse, plain, made(*shape), [BIG] * houses, wrong)

    def test_bad_standing_is_raised_ahead_of_bad_house(self):
        for shape in SHAPES:
            for wrong, standing in itertools.product((-1, 8, BIG, -BIG), wrong_lengths(shape[0])):
                self.assertRaises(BadStanding, plain, made(*shape), standing, wrong)


if __name__ == "__main__":
    unittest.main()

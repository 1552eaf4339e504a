"""Points 15 and 16: standings that are cleared or held, and their told paper."""

import copy
import itertools
import unittest

from owinghall.clearing import clears, holds, is_cleared, paper
from owinghall.errors import BadStanding
from owinghall.lendings import lent
from owinghall.plains import plain
from owinghall.webs import made
from tests.samples import (
    ALL, BIG, DOUBLE, FULL, HEAVY, KITE, LONG, ONE, PATH, SQUARE, TRIANGLE, WHOLE_FOUR, PromptTest,
    behind_by_point_seven, bound_by_point_seventeen, draw, queue_by_point_twelve, with_sum, wrong_lengths,
    wrong_orders,
)
from tests.searches import cleared_by_search

SHAPES = ALL + [SQUARE, WHOLE_FOUR, LONG, HEAVY]
SMALL = [ONE, PATH, DOUBLE, TRIANGLE, SQUARE, KITE]


def standings(shape, seed):
    """Small and great standings, of sums about that at which some are cleared and some are held."""
    houses = shape[0]
    told = [[0] * houses, [-1] * houses, [BIG] * houses, [-BIG] * houses]
    for reach in (2, 30, BIG):
        drawn = draw(f"clearing {seed} {reach}", houses, reach)
        told += [drawn] + [with_sum(drawn, total) for total in range(-2, 6)]
    return told


def clears_by_point_fifteen(shape, standing, script):
    return min(behind_by_point_seven(*shape, standing, script)) >= 0


def holds_by_point_fifteen(shape, standing, script, order):
    behind = behind_by_point_seven(*shape, standing, script)
    return all(number <= most for number, most in zip(behind, bound_by_point_seventeen(*shape, order)))


class PaperTest(PromptTest):
    def test_cleared_by_hand(self):
        self.assertEqual(paper(made(*TRIANGLE), [-1, 1, 1]), ("cleared", [0, 1, 1]))
        self.assertEqual(paper(made(*TRIANGLE), [2, -1, -1]), ("cleared", [0, -1, -1]))
        self.assertEqual(paper(made(*KITE), [-1, 2, 1, 0]), ("cleared", [0, 1, 1, 1]))
        self.assertEqual(paper(made(*PATH), [5, -2, -1]), ("cleared", [0, -3, -4]))

    def test_held_by_hand(self):
        self.assertEqual(paper(made(*TRIANGLE), [1, -1, 0]), ("held", [0, -1, -1], [0, 1, 2]))
        self.assertEqual(paper(made(*DOUBLE), [-1, 2]), ("held", [0, 0], [0, 1]))
        self.assertEqual(paper(made(*KITE), [-1, 2, 2, -1]), ("held", [0, 0, 0, -1], [0, 2, 1, 3]))
        self.assertEqual(paper(made(*PATH), [0, 0, -3]), ("held", [0, -3, -6], [0, 1, 2]))

    def test_house_nought_at_the_edge_of_owing(self):
        self.assertEqual(paper(made(*ONE), [0]), ("cleared", [0]))
        self.assertEqual(paper(made(*ONE), [-1]), ("held", [0], [0]))
        self.assertEqual(paper(made(*ONE), [BIG]), ("cleared", [0]))
        self.assertEqual(paper(made(*ONE), [-BIG]), ("held", [0], [0]))
        self.assertEqual(paper(made(*KITE), [0, 1, 0, 1]), ("cleared", [0, 0, 0, 0]))
        self.assertEqual(paper(made(*KITE), [-1, 1, 0, 1]), ("held", [0, 0, 0, 0], [0, 1, 2, 3]))

    def test_nobody_owes_yet_it_is_told_by_the_plain_form(self):
        self.assertEqual(paper(made(*TRIANGLE), [0, 3, 0]), ("cleared", [0, 2, 1]))
        self.assertEqual(paper(made(*KITE), [0, 0, 4, 0]), ("cleared", [0, 0, 2, 2]))

    def test_in_the_words_of_the_document(self):
        forms = set()
        for seed, shape in enumerate(SHAPES):
            web = made(*shape)
            for standing in standings(shape, seed):
                form, script = plain(web, standing, 0)
                told = paper(web, standing)
                if form[0] >= 0:
                    self.assertEqual(told, ("cleared", script))
                else:
                    order = queue_by_point_twelve(*shape, form, 0)
                    self.assertEqual(told, ("held", script, order))
                forms.add((shape[0], told[0]))
        self.assertEqual(len(forms), 2 * len({shape[0] for shape in SHAPES}))

    def test_each_told_paper_clears_or_holds(self):
        for seed, shape in enumerate(SHAPES):
            web = made(*shape)
            for standing in standings(shape, seed):
                told = paper(web, standing)
                if told[0] == "cleared":
                    self.assertTrue(clears_by_point_fifteen(shape, standing, told[1]))
                    self.assertIs(clears(web, standing, told[1]), True)
                else:
                    self.assertEqual(sorted(told[2]), list(range(shape[0])))
                    self.assertTrue(holds_by_point_fifteen(shape, standing, told[1], told[2]))
                    self.assertIs(holds(web, standing, told[1], told[2]), True)

    def test_what_it_is_made_of(self):
        for seed, shape in enumerate(SHAPES):
            for standing in standings(shape, seed):
                told = paper(made(*shape), standing)
                self.assertIs(type(told), tuple)
                self.assertEqual(len(told), 2 if told[0] == "cleared" else 3)
                for part in told[1:]:
                    self.assertIs(type(part), list)
                    self.assertEqual([type(number) for number in part], [int] * shape[0])

    def test_great_numbers(self):
        self.assertEqual(paper(made(*PATH), [BIG, 0, -BIG]), ("cleared", [0, -BIG, -2 * BIG]))
        self.assertEqual(paper(made(*PATH), [BIG, 0, -BIG - 1])[0], "held")
        self.assertEqual(paper(made(*DOUBLE), [1 - BIG, BIG]), ("cleared", [0, BIG // 3]))
        self.assertEqual(paper(made(*DOUBLE), [-BIG, BIG + 1]), ("cleared", [0, BIG // 3]))
        self.assertEqual(paper(made(*DOUBLE), [-BIG, BIG - 1]), ("held", [0, BIG // 3 - 1], [0, 1]))

    def test_what_is_told_may_be_handed_in_again(self):
        for shape in (KITE, FULL):
            web = made(*shape)
            further = paper(web, draw("again", shape[0], BIG))[1]
            told = paper(web, lent(web, further, further))
            self.assertEqual(told[1], plain(web, lent(web, further, further), 0)[1])


class IsClearedTest(PromptTest):
    def test_it_goes_by_the_told_paper(self):
        for seed, shape in enumerate(SHAPES):
            for standing in standings(shape, seed):
                due = paper(made(*shape), standing)[0] == "cleared"
                self.assertIs(is_cleared(made(*shape), standing), due)

    def test_by_hand(self):
        self.assertIs(is_cleared(made(*ONE), [0]), True)
        self.assertIs(is_cleared(made(*ONE), [-1]), False)
        self.assertIs(is_cleared(made(*PATH), [BIG, 0, -BIG]), True)
        self.assertIs(is_cleared(made(*PATH), [BIG, -1, -BIG]), False)
        self.assertIs(is_cleared(made(*TRIANGLE), [1, -1, 0]), False)
        self.assertIs(is_cleared(made(*TRIANGLE), [2, -1, 0]), True)
        self.assertIs(is_cleared(made(*KITE), [-1, 2, 2, -1]), False)
        self.assertIs(is_cleared(made(*KITE), [-1, 2, 1, 0]), True)

    def test_all_small_standings_against_all_that_do_not_owe(self):
        for shape in SMALL:
            for standing in itertools.product(range(-2, 3), repeat=shape[0]):
                due = cleared_by_search(made(*shape), list(standing))
                self.assertIs(is_cleared(made(*shape), list(standing)), due)

    def test_where_the_sum_is_the_rings_or_more_it_is_cleared(self):
        for seed, (houses, ties) in enumerate(SHAPES):
            rings = len(ties) - houses + 1
            for reach, more in itertools.product((3, BIG), (0, 1, BIG)):
                standing = with_sum(draw(f"rings {seed}", houses, reach), rings + more)
                self.assertIs(is_cleared(made(houses, ties), standing), True)

    def test_where_the_sum_is_below_nought_it_is_held(self):
        for seed, shape in enumerate(SHAPES):
            for reach, fewer in itertools.product((3, BIG), (1, 2, BIG)):
                standing = with_sum(draw(f"below {seed}", shape[0], reach), -fewer)
                self.assertIs(is_cleared(made(*shape), standing), False)


class ClearsTest(PromptTest):
    def test_by_hand(self):
        web = made(*TRIANGLE)
        self.assertIs(clears(web, [0, 0, 0], [0, 0, 0]), True)
        self.assertIs(clears(web, [2, -1, -1], [1, 0, 0]), True)
        self.assertIs(clears(web, [2, -1, -1], [0, -1, -1]), True)
        self.assertIs(clears(web, [2, -1, -1], [BIG + 1, BIG, BIG]), True)
        self.assertIs(clears(web, [2, -1, -1], [0, 0, 0]), False)
        self.assertIs(clears(web, [2, -1, -1], [0, -1, 0]), False)
        self.assertIs(clears(web, [2, -1, -1], [-1, 0, 0]), False)
        self.assertIs(clears(web, [2, -1, -2], [1, 0, 0]), False)
        self.assertIs(clears(made(*ONE), [0], [BIG]), True)
        self.assertIs(clears(made(*ONE), [-1], [BIG]), False)

    def test_one_that_owes_is_enough_wherever_it_is(self):
        for houses, ties in SHAPES:
            for house in range(houses):
                standing = [3] * houses
                standing[house] = 0
                self.assertIs(clears(made(houses, ties), standing, [7] * houses), True)
                standing[house] = -1
                self.assertIs(clears(made(houses, ties), standing, [7] * houses), False)

    def test_in_the_words_of_the_document(self):
        seen = set()
        for shape in (PATH, DOUBLE, TRIANGLE):
            for standing in itertools.product(range(-2, 4), repeat=shape[0]):
                for script in itertools.product(range(-1, 2), repeat=shape[0]):
                    due = clears_by_point_fifteen(shape, standing, script)
                    self.assertIs(clears(made(*shape), list(standing), list(script)), due)
                    seen.add(due)
        self.assertEqual(seen, {True, False})

    def test_a_script_of_another_length_clears_nothing(self):
        for shape in SHAPES:
            for wrong in wrong_lengths(shape[0]):
                self.assertIs(clears(made(*shape), [BIG] * shape[0], wrong), False)
                self.assertIs(clears(made(*shape), [-1] * shape[0], wrong), False)


class HoldsTest(PromptTest):
    def test_by_hand(self):
        web = made(*TRIANGLE)
        self.assertIs(holds(web, [-1, 0, 1], [0, 0, 0], [0, 1, 2]), True)
        self.assertIs(holds(web, [-1, 0, 1], [0, 0, 0], [0, 2, 1]), False)
        self.assertIs(holds(web, [-1, 0, 1], [0, 0, 0], [2, 1, 0]), False)
        self.assertIs(holds(web, [-1, 0, 0], [0, 0, 0], [0, 2, 1]), True)
        self.assertIs(holds(web, [-1, 0, 2], [0, 0, 0], [0, 1, 2]), False)
        self.assertIs(holds(web, [0, 0, 1], [0, 0, 0], [0, 1, 2]), False)
        self.assertIs(holds(web, [1, -1, 0], [0, -1, -1], [0, 1, 2]), True)
        self.assertIs(holds(web, [1, -1, 0], [BIG, BIG - 1, BIG - 1], [0, 1, 2]), True)
        self.assertIs(holds(web, [1, -1, 0], [0, -1, 1], [0, 1, 2]), False)
        self.assertIs(holds(made(*ONE), [-1], [5], [0]), True)
        self.assertIs(holds(made(*ONE), [0], [5], [0]), False)
        self.assertIs(holds(made(*DOUBLE), [2, -1], [0, 0], [1, 0]), True)
        self.assertIs(holds(made(*DOUBLE), [2, -1], [0, 0], [0, 1]), False)
        self.assertIs(holds(made(*FULL), [-BIG] * 8, [3] * 8, [7, 6, 5, 4, 3, 2, 1, 0]), True)

    def test_one_coin_above_the_bound_is_enough_wherever_it_is(self):
        for houses, ties in SHAPES:
            for turn in range(houses):
                order = [(house + turn) % houses for house in range(houses)]
                most = bound_by_point_seventeen(houses, ties, order)
                self.assertIs(holds(made(houses, ties), most, [4] * houses, order), True)
                more = most[:turn] + [most[turn] + 1] + most[turn + 1:]
                self.assertIs(holds(made(houses, ties), more, [4] * houses, order), False)

    def test_in_the_words_of_the_document(self):
        seen = set()
        for shape in (PATH, DOUBLE, TRIANGLE):
            for standing in itertools.product(range(-2, 2), repeat=shape[0]):
                for script in itertools.product(range(-1, 2), repeat=shape[0]):
                    for order in itertools.permutations(range(shape[0])):
                        due = holds_by_point_fifteen(shape, standing, script, order)
                        self.assertIs(holds(made(*shape), list(standing), list(script), list(order)), due)
                        seen.add(due)
        self.assertEqual(seen, {True, False})

    def test_a_script_of_another_length_holds_nothing(self):
        for shape in SHAPES:
            order = list(range(shape[0]))
            for wrong in wrong_lengths(shape[0]):
                self.assertIs(holds(made(*shape), [-1] * shape[0], wrong, order), False)

    def test_an_order_that_is_not_all_houses_each_once_holds_nothing(self):
        for shape in SHAPES:
            for wrong in wrong_orders(shape[0]):
                self.assertIs(holds(made(*shape), [-BIG] * shape[0], [0] * shape[0], wrong), False)
                self.assertIs(holds(made(*shape), [-BIG] * shape[0], [], wrong), False)


class EitherTest(PromptTest):
    def test_no_standing_is_both_and_each_is_one_of_the_two(self):
        for shape in (ONE, PATH, DOUBLE, TRIANGLE):
            houses = shape[0]
            web = made(*shape)
            orders = [list(order) for order in itertools.permutations(range(houses))]
            scripts = [list(script) for script in itertools.product(range(-4, 5), repeat=houses) if script[0] == 0]
            for standing in itertools.product(range(-1, 3), repeat=houses):
                cleared = [script for script in scripts if clears(web, list(standing), script)]
                held = [script for script in scripts for order in orders if holds(web, list(standing), script, order)]
                self.assertNotEqual(bool(cleared), bool(held), (shape, standing))
                self.assertIs(is_cleared(web, list(standing)), bool(cleared))

    def test_whatever_script_and_order_a_cleared_one_is_not_held_and_a_held_one_not_cleared(self):
        for seed, shape in enumerate(SHAPES):
            houses = shape[0]
            web = made(*shape)
            for place, standing in enumerate(standings(shape, seed)):
                told = paper(web, standing)
                script = told[1]
                order = sorted(range(houses), key=lambda house: draw(f"order {place} {house}", 1, BIG))
                for moved in (script, draw(f"script {place}", houses, 2), [0] * houses):
                    if told[0] == "cleared":
                        self.assertIs(holds(web, standing, moved, order), False)
                    else:
                        self.assertIs(clears(web, standing, moved), False)

    def test_what_is_handed_in_stays(self):
        web = made(*KITE)
        handed = [[BIG, -1, 0, 2], [1, 0, BIG, -3], [2, 0, 3, 1]]
        before = copy.deepcopy(handed)
        paper(web, handed[0])
        is_cleared(web, handed[0])
        clears(web, handed[0], handed[1])
        holds(web, handed[0], handed[1], handed[2])
        self.assertEqual(handed, before)


class RefusalsTest(PromptTest):
    def test_a_standing_of_another_length(self):
        for shape in SHAPES:
            web = made(*shape)
            right = [0] * shape[0]
            order = list(range(shape[0]))
            for wrong in wrong_lengths(shape[0]):
                self.assertRaises(BadStanding, paper, web, wrong)
                self.assertRaises(BadStanding, is_cleared, web, wrong)
                self.assertRaises(BadStanding, clears, web, wrong, right)
                self.assertRaises(BadStanding, holds, web, wrong, right, order)

    def test_also_beside_a_script_or_an_order_that_shows_nothing(self):
        for shape in SHAPES:
            web = made(*shape)
            order = list(range(shape[0]))
            for wrong in wrong_lengths(shape[0]):
                self.assertRaises(BadStanding, clears, web, wrong, list(wrong))
                self.assertRaises(BadStanding, clears, web, wrong, wrong + [0])
                self.assertRaises(BadStanding, holds, web, wrong, list(wrong), order)
                self.assertRaises(BadStanding, holds, web, wrong, wrong + [0], order + [0])
                self.assertRaises(BadStanding, holds, web, wrong, [0] * shape[0], order[1:])


if __name__ == "__main__":
    unittest.main()

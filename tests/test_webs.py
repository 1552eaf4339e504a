import itertools
import unittest

from owinghall.errors import BadHouse, BadWeb, Parted
from owinghall.webs import between, degree, made, rings
from tests.samples import ALL, BIG, FULL, KITE, ONE, PATH, RING, TRIANGLE, ends_across, is_joined

NO_HOUSES_OF_FOUR = [-1, 4, 5, -4, BIG, -BIG]


class MadeTest(unittest.TestCase):
    def refuses(self, error, houses, ties):
        with self.subTest(houses=houses, ties=ties):
            with self.assertRaises(error) as caught:
                made(houses, ties)
            self.assertIs(type(caught.exception), error)

    def test_one_house_without_ties_is_a_web(self):
        self.assertEqual(made(1, []), (1, ()))

    def test_eight_houses(self):
        ties = [(7, 6), (5, 6), (4, 5), (3, 4), (2, 3), (1, 2), (1, 0)]
        told = made(8, ties)
        self.assertEqual(told, (8, ((0, 1), (1, 2), (2, 3), (3, 4), (4, 5), (5, 6), (6, 7))))

    def test_numbers_of_houses_out_of_bounds(self):
        for houses in (0, 9, 10, -1, -8, BIG, -BIG):
            self.refuses(BadWeb, houses, [])
        self.refuses(BadWeb, 0, [(0, 1)])
        self.refuses(BadWeb, 9, [(k, k + 1) for k in range(8)])

    def test_each_number_of_houses_within_bounds(self):
        for houses in range(1, 9):
            ties = [(k, k + 1) for k in range(houses - 1)]
            self.assertEqual(made(houses, ties), (houses, tuple(ties)))

    def test_sixteen_ties_are_a_web(self):
        self.assertEqual(made(2, [(0, 1)] * 16), (2, ((0, 1),) * 16))
        self.assertEqual(len(made(*FULL)[1]), 16)

    def test_seventeen_ties_are_none(self):
        self.refuses(BadWeb, 2, [(0, 1)] * 17)
        self.refuses(BadWeb, FULL[0], FULL[1] + [(0, 2)])
        self.refuses(BadWeb, 2, [(0, 1)] * 40)

    def test_a_tie_with_equal_ends(self):
        self.refuses(BadWeb, 1, [(0, 0)])
        for house in range(3):
            self.refuses(BadWeb, 3, PATH[1] + [(house, house)])

    def test_a_tie_with_an_end_that_is_no_house(self):
        for end in NO_HOUSES_OF_FOUR:
            for house in range(4):
                self.refuses(BadWeb, 4, KITE[1] + [(house, end)])
                self.refuses(BadWeb, 4, [(end, house)] + KITE[1])
            self.refuses(BadWeb, 4, KITE[1] + [(end, end)])
        self.refuses(BadWeb, 4, KITE[1] + [(-1, 4)])

    def test_a_wrong_tie_at_any_place(self):
        for place in range(len(KITE[1]) + 1):
            for tie in ((2, 2), (0, 4), (-1, 0)):
                self.refuses(BadWeb, 4, KITE[1][:place] + [tie] + KITE[1][place:])

    def test_several_pieces(self):
        self.refuses(Parted, 2, [])
        self.refuses(Parted, 8, [])
        self.refuses(Parted, 3, [(0, 1)])
        self.refuses(Parted, 3, [(1, 2), (1, 2)])
        self.refuses(Parted, 4, [(0, 1), (2, 3)])
        self.refuses(Parted, 6, [(0, 1), (1, 2), (0, 2), (3, 4), (4, 5), (3, 5)])
        self.refuses(Parted, 8, [(0, 1)] * 16)

    def test_where_two_are_due_bad_web_is_raised(self):
        self.refuses(BadWeb, 9, [])
        self.refuses(BadWeb, 0, [])
        self.refuses(BadWeb, 3, [(0, 1)] * 17)
        self.refuses(BadWeb, 3, [(0, 0)])
        self.refuses(BadWeb, 4, [(0, 1), (0, 1), (2, 2)])
        self.refuses(BadWeb, 4, [(0, 1), (2, 4)])
        self.refuses(BadWeb, 4, [(0, 1), (BIG, 2)])

    def test_just_the_webs_in_one_piece_are_made(self):
        for houses in range(1, 6):
            pairs = list(itertools.combinations(range(houses), 2))
            for choice in itertools.product((False, True), repeat=len(pairs)):
                ties = [pair for pair, taken in zip(pairs, choice) if taken]
                if is_joined(houses, ties):
                    self.assertEqual(made(houses, ties), (houses, tuple(ties)))
                else:
                    self.assertRaises(Parted, made, houses, ties)

    def test_long_webs_in_any_order_are_in_one_piece(self):
        ties = [(0, 1), (2, 1), (2, 3), (4, 3), (4, 5), (6, 5), (6, 7)]
        for order in itertools.permutations(ties):
            self.assertEqual(made(8, list(order))[0], 8)

    def test_any_order_and_either_way_round_tell_the_same_web(self):
        ties = [(0, 1), (0, 1), (0, 2), (2, 3)]
        for order in set(itertools.permutations(ties)):
            for turned in itertools.product((False, True), repeat=4):
                handed = [(b, a) if turn else (a, b) for (a, b), turn in zip(order, turned)]
                self.assertEqual(made(4, handed), (4, ((0, 1), (0, 1), (0, 2), (2, 3))))

    def test_a_tie_is_told_as_often_as_it_is_there(self):
        self.assertEqual(made(3, [(1, 0), (2, 1), (0, 1), (1, 0)]), (3, ((0, 1), (0, 1), (0, 1), (1, 2))))

    def test_what_is_told_is_made_of_tuples_of_whole_numbers(self):
        for houses, ties in ALL:
            told = made(houses, ties)
            self.assertIs(type(told), tuple)
            self.assertEqual(len(told), 2)
            self.assertIs(type(told[0]), int)
            self.assertIs(type(told[1]), tuple)
            for tie in told[1]:
                self.assertIs(type(tie), tuple)
                self.assertEqual([type(end) for end in tie], [int, int])
                self.assertLess(tie[0], tie[1])
            self.assertEqual(list(told[1]), sorted(told[1]))

    def test_the_same_is_told_for_what_was_told(self):
        for houses, ties in ALL:
            told = made(houses, ties)
            self.assertEqual(made(told[0], list(told[1])), told)


class BetweenTest(unittest.TestCase):
    def test_from_either_house(self):
        web = made(*KITE)
        told = [[between(web, one, other) for other in range(4)] for one in range(4)]
        self.assertEqual(told, [[0, 2, 1, 0], [2, 0, 1, 0], [1, 1, 0, 2], [0, 0, 2, 0]])

    def test_a_house_and_itself(self):
        for houses, ties in ALL:
            for house in range(houses):
                self.assertEqual(between(made(houses, ties), house, house), 0)

    def test_sixteen_ties(self):
        web = made(2, [(0, 1), (1, 0)] * 8)
        self.assertEqual(between(web, 0, 1), 16)
        self.assertEqual(between(web, 1, 0), 16)

    def test_no_house_at_either_place(self):
        web = made(*KITE)
        for wrong in NO_HOUSES_OF_FOUR:
            for house in range(4):
                self.assertRaises(BadHouse, between, web, wrong, house)
                self.assertRaises(BadHouse, between, web, house, wrong)
            self.assertRaises(BadHouse, between, web, wrong, wrong)

    def test_no_house_of_a_web_of_one(self):
        web = made(*ONE)
        self.assertRaises(BadHouse, between, web, 0, 1)
        self.assertRaises(BadHouse, between, web, 1, 0)
        self.assertRaises(BadHouse, between, web, 1, 1)
        self.assertRaises(BadHouse, between, web, 0, -1)


class DegreeTest(unittest.TestCase):
    def test_degrees(self):
        self.assertEqual(degree(made(*ONE), 0), 0)
        self.assertEqual([degree(made(*PATH), house) for house in range(3)], [1, 2, 1])
        self.assertEqual([degree(made(*KITE), house) for house in range(4)], [3, 3, 4, 2])
        self.assertEqual([degree(made(*RING), house) for house in range(8)], [2] * 8)
        self.assertEqual([degree(made(*FULL), house) for house in range(8)], [4] * 8)
        self.assertEqual(degree(made(2, [(1, 0)] * 16), 1), 16)

    def test_a_degree_counts_the_ties_to_all_houses(self):
        for houses, ties in ALL:
            web = made(houses, ties)
            for house in range(houses):
                self.assertEqual(degree(web, house), len(ends_across(ties, house)))
                self.assertEqual(degree(web, house), sum(between(web, house, k) for k in range(houses)))

    def test_no_house(self):
        for wrong in NO_HOUSES_OF_FOUR:
            self.assertRaises(BadHouse, degree, made(*KITE), wrong)
        self.assertRaises(BadHouse, degree, made(*ONE), 1)
        self.assertRaises(BadHouse, degree, made(*ONE), -1)
        self.assertRaises(BadHouse, degree, made(*RING), 8)


class RingsTest(unittest.TestCase):
    def test_rings(self):
        self.assertEqual(rings(made(*ONE)), 0)
        self.assertEqual(rings(made(*PATH)), 0)
        self.assertEqual(rings(made(*TRIANGLE)), 1)
        self.assertEqual(rings(made(*KITE)), 3)
        self.assertEqual(rings(made(*RING)), 1)
        self.assertEqual(rings(made(*FULL)), 9)
        self.assertEqual(rings(made(2, [(0, 1)] * 16)), 15)


class EqualWebTest(unittest.TestCase):
    def test_a_web_equal_to_a_told_one_will_do(self):
        web = (3, ((0, 1), (0, 1), (1, 2)))
        self.assertEqual(between(web, 1, 0), 2)
        self.assertEqual(degree(web, 1), 3)
        self.assertEqual(rings(web), 1)
        self.assertRaises(BadHouse, degree, web, 3)


if __name__ == "__main__":
    unittest.main()

import itertools
import unittest

from owinghall.errors import BadStanding
from owinghall.lendings import coins, lent, less
from owinghall.webs import made
from tests.samples import ALL, BIG, DOUBLE, KITE, ONE, PATH, TRIANGLE, behind_by_point_seven, draw


class LentTest(unittest.TestCase):
    def test_one_house_lends(self):
        web = made(*KITE)
        self.assertEqual(lent(web, [0, 0, 0, 0], [1, 0, 0, 0]), [-3, 2, 1, 0])
        self.assertEqual(lent(web, [0, 0, 0, 0], [0, 0, 1, 0]), [1, 1, -4, 2])
        self.assertEqual(lent(web, [3, 1, -2, 5], [0, 0, 0, 2]), [3, 1, 2, 1])

    def test_one_house_takes(self):
        web = made(*KITE)
        self.assertEqual(lent(web, [0, 0, 0, 0], [-1, 0, 0, 0]), [3, -2, -1, 0])
        self.assertEqual(lent(web, [1, 1, 1, 1], [0, 0, 0, -3]), [1, 1, -5, 7])

    def test_lendings_and_takings_together(self):
        self.assertEqual(lent(made(*TRIANGLE), [5, 0, -5], [2, 0, -1]), [0, 1, -1])
        self.assertEqual(lent(made(*DOUBLE), [4, -4], [2, -1]), [-5, 5])
        self.assertEqual(lent(made(*PATH), [1, 2, 3], [0, 5, 0]), [6, -8, 8])

    def test_one_house_keeps_what_it_has(self):
        self.assertEqual(lent(made(*ONE), [-7], [BIG]), [-7])
        self.assertEqual(lent(made(*ONE), [BIG], [-3]), [BIG])

    def test_numbers_of_seventy_figures(self):
        web = made(*KITE)
        self.assertEqual(lent(web, [BIG, -BIG, 0, 1], [0, 0, 0, BIG]), [BIG, -BIG, 2 * BIG, 1 - 2 * BIG])
        self.assertEqual(lent(web, [BIG] * 4, [-BIG, 0, 0, 0]), [4 * BIG, -BIG, 0, BIG])
        self.assertEqual(lent(web, [-BIG] * 4, [BIG, -BIG, BIG, -BIG]), [-5 * BIG, 5 * BIG, -7 * BIG, 3 * BIG])

    def test_what_is_told_may_be_handed_in_again(self):
        web = made(*KITE)
        once = lent(web, [BIG, 1, -BIG, 0], [BIG, -BIG, 0, 3])
        twice = lent(web, once, once)
        self.assertEqual(twice, behind_by_point_seven(*KITE, once, once))

    def test_small_and_great_numbers_in_the_words_of_the_document(self):
        for place, (houses, ties) in enumerate(ALL):
            for seed in range(20):
                for reach in (3, 1000, BIG):
                    standing = draw(f"has {place} {seed}", houses, reach)
                    script = draw(f"lends {place} {seed}", houses, reach)
                    due = behind_by_point_seven(houses, ties, standing, script)
                    self.assertEqual(lent(made(houses, ties), standing, script), due)

    def test_the_order_of_lendings_makes_no_difference(self):
        web = made(*KITE)
        start, script = [2, -1, BIG, 0], [1, -2, 0, BIG]
        due = lent(web, start, script)
        for order in itertools.permutations(range(4)):
            has = start
            for house in order:
                has = lent(web, has, [script[k] if k == house else 0 for k in range(4)])
            self.assertEqual(has, due)

    def test_the_sum_stays(self):
        for place, (houses, ties) in enumerate(ALL):
            for reach in (5, BIG):
                standing, script = draw(place, houses, reach), draw(place + 100, houses, reach)
                self.assertEqual(coins(lent(made(houses, ties), standing, script)), coins(standing))

    def test_where_all_lend_as_many_times_all_stays(self):
        for place, (houses, ties) in enumerate(ALL):
            for times in (0, 1, -1, 12, BIG, -BIG):
                standing = draw(place, houses, 50)
                self.assertEqual(lent(made(houses, ties), standing, [times] * houses), standing)

    def test_lists_of_another_length(self):
        for houses, ties in ALL:
            web = made(houses, ties)
            right = [0] * houses
            wrongs = [[], [0] * (houses - 1), [0] * (houses + 1), [BIG] * (houses + 20)]
            for wrong in wrongs:
                self.assertRaises(BadStanding, lent, web, wrong, right)
                self.assertRaises(BadStanding, lent, web, right, wrong)
                for other in wrongs:
                    self.assertRaises(BadStanding, lent, web, wrong, other)

    def test_a_web_equal_to_a_told_one_will_do(self):
        self.assertEqual(lent((3, ((0, 1), (0, 1), (1, 2))), [0, 0, 0], [0, 1, 0]), [2, -3, 1])


class CoinsTest(unittest.TestCase):
    def test_coins(self):
        self.assertEqual(coins([]), 0)
        self.assertEqual(coins([-4]), -4)
        self.assertEqual(coins([3, -5, 0, 9]), 7)
        self.assertEqual(coins([1] * 100), 100)
        self.assertEqual(coins([BIG, 1, BIG]), 2 * 10 ** 70 - 1)
        self.assertEqual(coins([BIG, -BIG]), 0)

    def test_coins_tell_a_whole_number(self):
        for numbers in ([], [0], [BIG, -1]):
            self.assertIs(type(coins(numbers)), int)


class LessTest(unittest.TestCase):
    def test_less(self):
        self.assertEqual(less([], []), [])
        self.assertEqual(less([5], [7]), [-2])
        self.assertEqual(less([1, 2, 3], [3, 2, -1]), [-2, 0, 4])
        self.assertEqual(less([BIG, -BIG, 0], [-BIG, BIG, BIG]), [2 * BIG, -2 * BIG, -BIG])
        self.assertEqual(less(list(range(30)), [1] * 30), list(range(-1, 29)))

    def test_unlike_lengths(self):
        for one, other in itertools.permutations(range(6), 2):
            self.assertRaises(BadStanding, less, [0] * one, [0] * other)
        self.assertRaises(BadStanding, less, [], [BIG])
        self.assertRaises(BadStanding, less, [BIG], [])


if __name__ == "__main__":
    unittest.main()

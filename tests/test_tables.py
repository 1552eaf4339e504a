"""Point 8: the small table, the determinant and the adjoint."""

import copy
import itertools
import unittest

from owinghall.tables import adjoint, det, small_table
from owinghall.webs import made
from tests.samples import ALL, BIG, DOUBLE, FULL, KITE, ONE, PATH, RING, TRIANGLE, draw, ends_across


def det_by_orders(table):
    """The determinant summed up over all orders of the columns."""
    total = 0
    for order in itertools.permutations(range(len(table))):
        turned = sum(1 for a, b in itertools.combinations(order, 2) if a > b)
        term = -1 if turned % 2 else 1
        for row, column in enumerate(order):
            term *= table[row][column]
        total += term
    return total


def drawn_table(seed, many, reach):
    numbers = draw(seed, many * many, reach)
    return [numbers[k * many:(k + 1) * many] for k in range(many)]


def noughts_along(table):
    return [[0 if i == k else entry for k, entry in enumerate(row)] for i, row in enumerate(table)]


def times(one, other):
    many = len(one)
    return [[sum(one[i][j] * other[j][k] for j in range(many)) for k in range(many)] for i in range(many)]


def along(number, many):
    return [[number if i == k else 0 for k in range(many)] for i in range(many)]


def without(table, row, column):
    return [[entry for k, entry in enumerate(kept) if k != column] for i, kept in enumerate(table) if i != row]


def tables():
    """Tables of all sizes: ordinary, great, with noughts, and such whose determinant is nought."""
    told = [[]]
    for many in range(1, 8):
        for reach in (1, 9, BIG):
            for seed in range(3):
                table = drawn_table(f"{many} {reach} {seed}", many, reach)
                told += [table, noughts_along(table), along(reach, many), along(0, many)]
                told.append(table[:-1] + [list(table[0])])
                told.append(table[:-1] + [[0] * many])
                told.append([[0] + row[1:] for row in table])
    return told


class SmallTableTest(unittest.TestCase):
    def test_one_house_has_the_empty_table(self):
        self.assertEqual(small_table(made(*ONE)), [])

    def test_two_houses(self):
        self.assertEqual(small_table(made(2, [(0, 1)])), [[1]])
        self.assertEqual(small_table(made(*DOUBLE)), [[3]])
        self.assertEqual(small_table(made(2, [(1, 0)] * 16)), [[16]])

    def test_more_houses(self):
        self.assertEqual(small_table(made(*PATH)), [[2, -1], [-1, 1]])
        self.assertEqual(small_table(made(*TRIANGLE)), [[2, -1], [-1, 2]])
        self.assertEqual(small_table(made(*KITE)), [[3, -1, 0], [-1, 4, -2], [0, -2, 2]])

    def test_several_ties_between_the_same_two(self):
        web = made(3, [(1, 2), (2, 1), (0, 1), (1, 2), (0, 2), (0, 2)])
        self.assertEqual(small_table(web), [[4, -3], [-3, 5]])

    def test_eight_houses(self):
        self.assertEqual(small_table(made(*RING)), [
            [2, -1, 0, 0, 0, 0, 0], [-1, 2, -1, 0, 0, 0, 0], [0, -1, 2, -1, 0, 0, 0], [0, 0, -1, 2, -1, 0, 0],
            [0, 0, 0, -1, 2, -1, 0], [0, 0, 0, 0, -1, 2, -1], [0, 0, 0, 0, 0, -1, 2],
        ])

    def test_in_the_words_of_the_document(self):
        for houses, ties in ALL:
            told = small_table(made(houses, ties))
            self.assertEqual(len(told), houses - 1)
            for house in range(1, houses):
                across = ends_across(ties, house)
                due = [len(across) if k == house else -across.count(k) for k in range(1, houses)]
                self.assertEqual(told[house - 1], due)

    def test_it_is_a_list_of_lists_new_each_time(self):
        for shape in ALL:
            web = made(*shape)
            first, second = small_table(web), small_table(web)
            self.assertIs(type(first), list)
            self.assertEqual({type(row) for row in first} - {list}, set())
            held = [first, second] + first + second
            self.assertEqual(len({id(thing) for thing in held}), len(held))
            for row in first:
                row[0] += 5
                row.append(7)
            first.append([1])
            self.assertEqual(small_table(web), second)


class DetTest(unittest.TestCase):
    def test_the_table_without_rows(self):
        self.assertEqual(det([]), 1)

    def test_small_tables(self):
        self.assertEqual(det([[0]]), 0)
        self.assertEqual(det([[-7]]), -7)
        self.assertEqual(det([[1, 2], [3, 4]]), -2)
        self.assertEqual(det([[0, 1], [1, 0]]), -1)
        self.assertEqual(det([[0, 2], [3, 0]]), -6)
        self.assertEqual(det([[0, 1, 0], [0, 0, 1], [1, 0, 0]]), 1)
        self.assertEqual(det([[0, 0, 1], [0, 1, 0], [1, 0, 0]]), -1)
        self.assertEqual(det([[2, 0, 1], [1, 3, 2], [1, 1, 1]]), 0)
        self.assertEqual(det([[2, 0, 1], [1, 3, 2], [1, 1, 2]]), 6)

    def test_noughts_on_the_diagonal(self):
        self.assertEqual([det(noughts_along([[1] * many] * many)) for many in range(1, 8)], [0, -1, 2, -3, 4, -5, 6])

    def test_each_order_of_rows(self):
        for many in range(1, 6):
            for order in itertools.permutations(range(many)):
                table = [[k + 2 if k == place else 0 for k in range(many)] for place in order]
                self.assertEqual(det(table), det_by_orders(table))

    def test_two_rows_or_columns_alike(self):
        for many in range(2, 8):
            table = drawn_table(f"alike {many}", many, BIG)
            for one, other in itertools.combinations(range(many), 2):
                rows = copy.deepcopy(table)
                rows[other] = list(rows[one])
                self.assertEqual(det(rows), 0)
                self.assertEqual(det([list(column) for column in zip(*rows)]), 0)

    def test_numbers_of_many_figures(self):
        self.assertEqual(det([[BIG]]), BIG)
        self.assertEqual(det([[BIG, 1], [1, BIG]]), BIG * BIG - 1)
        self.assertEqual(det([[BIG, BIG - 1], [BIG + 1, BIG]]), 1)
        self.assertEqual(det(along(-BIG, 7)), -BIG ** 7)

    def test_as_summed_up_over_all_orders(self):
        for table in tables():
            self.assertEqual(det(table), det_by_orders(table))

    def test_all_tables_of_three_rows_with_few_numbers(self):
        for numbers in itertools.product((-1, 0, 2), repeat=9):
            table = [list(numbers[k:k + 3]) for k in (0, 3, 6)]
            self.assertEqual(det(table), det_by_orders(table))

    def test_somewhat_more_rows(self):
        for many in (8, 9, 10):
            self.assertEqual(det(along(3, many)), 3 ** many)

    def test_what_is_told_may_be_handed_in_again(self):
        great = adjoint(drawn_table("again", 7, BIG))
        self.assertEqual(det(great), det(drawn_table("again", 7, BIG)) ** 6)

    def test_it_is_a_whole_number_and_the_table_stays_as_it_was(self):
        for table in tables():
            before = copy.deepcopy(table)
            rows = list(table)
            self.assertIs(type(det(table)), int)
            self.assertEqual(table, before)
            self.assertTrue(all(row is kept for row, kept in zip(table, rows)))


class AdjointTest(unittest.TestCase):
    def test_no_row_and_one_row(self):
        self.assertEqual(adjoint([]), [])
        for number in (0, 1, -5, BIG):
            self.assertEqual(adjoint([[number]]), [[1]])

    def test_two_and_three_rows(self):
        self.assertEqual(adjoint([[1, 2], [3, 4]]), [[4, -2], [-3, 1]])
        self.assertEqual(adjoint([[0, 5], [0, 0]]), [[0, -5], [0, 0]])
        self.assertEqual(adjoint([[1, 2, 3], [0, 4, 5], [1, 0, 6]]), [[24, -12, -2], [5, 3, -5], [-4, 2, 4]])

    def test_tables_whose_determinant_is_nought(self):
        self.assertEqual(adjoint([[1, 2], [2, 4]]), [[4, -2], [-2, 1]])
        self.assertEqual(adjoint(along(0, 2)), along(0, 2))
        self.assertEqual(adjoint([[1, 0, 0], [0, 1, 0], [0, 0, 0]]), [[0, 0, 0], [0, 0, 0], [0, 0, 1]])
        self.assertEqual(adjoint([[0, 1, 0], [0, 0, 1], [0, 0, 0]]), [[0, 0, 1], [0, 0, 0], [0, 0, 0]])

    def test_in_the_words_of_the_document(self):
        for many in range(2, 6):
            for reach in (2, BIG):
                for table in (drawn_table(f"words {many}", many, reach), along(0, many), [[reach] * many] * many):
                    told = adjoint(table)
                    for i, k in itertools.product(range(many), repeat=2):
                        due = det_by_orders(without(table, k, i))
                        self.assertEqual(told[i][k], -due if (i + k) % 2 else due)

    def test_the_table_times_its_adjoint_either_way_round(self):
        for table in tables():
            due = along(det_by_orders(table), len(table))
            self.assertEqual(times(table, adjoint(table)), due)
            self.assertEqual(times(adjoint(table), table), due)

    def test_small_tables_of_webs(self):
        for shape in ALL:
            table = small_table(made(*shape))
            self.assertEqual(times(table, adjoint(table)), along(det_by_orders(table), len(table)))

    def test_the_full_web(self):
        rows = adjoint(small_table(made(*FULL)))
        self.assertEqual(rows, [list(column) for column in zip(*rows)])

    def test_somewhat_more_rows(self):
        self.assertEqual(adjoint(along(2, 8)), along(2 ** 7, 8))

    def test_the_told_lists_are_new_and_the_table_stays_as_it_was(self):
        for table in tables():
            before = copy.deepcopy(table)
            first, second = adjoint(table), adjoint(table)
            self.assertEqual(table, before)
            self.assertEqual(first, second)
            held = [table, first, second] + table + first + second
            self.assertEqual(len({id(thing) for thing in held}), len(held))
            self.assertEqual({type(entry) for row in first for entry in row} - {int}, set())


if __name__ == "__main__":
    unittest.main()

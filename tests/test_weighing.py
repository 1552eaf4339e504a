"""Points 8 to 11: the number of kinds, standings that are alike, the three papers and the told paper."""

import copy
import itertools
import unittest

from owinghall.errors import BadStanding
from owinghall.lendings import lent
from owinghall.tables import adjoint, small_table
from owinghall.webs import made
from owinghall.weighing import alike, kinds, shows
from tests.samples import (
    ALL, BIG, DOUBLE, FULL, KITE, ONE, PATH, RING, SQUARE, TRIANGLE, WHOLE_FOUR, draw, ends_across, is_joined,
    with_sum_of, wrong_lengths,
)

SMALL = [ONE, PATH, DOUBLE, TRIANGLE, KITE, SQUARE, WHOLE_FOUR]


def least_ways(houses, ties):
    """In how many ways the web hangs together by as few ties as can be."""
    return sum(1 for kept in itertools.combinations(ties, houses - 1) if is_joined(houses, kept))


def weighed_by_point_ten(houses, ties, one, other, m, weights):
    """What a weighed paper of the right lengths shows, house by house in the document's words."""
    if m < 2:
        return False
    for house in range(houses):
        across = ends_across(ties, house)
        if (len(across) * weights[house] - sum(weights[end] for end in across)) % m != 0:
            return False
    first = sum(number * weight for number, weight in zip(one, weights))
    second = sum(number * weight for number, weight in zip(other, weights))
    return (first - second) % m != 0


def pairs(shape, reach, many):
    """Standings of unlike sums, of like sums, and such between which a script leads."""
    houses, ties = shape
    for seed in range(many):
        one = draw(f"one {seed}", houses, reach)
        other = draw(f"other {seed}", houses, reach)
        yield one, other
        yield one, with_sum_of(other, one)
        yield one, lent(made(*shape), one, draw(f"script {seed}", houses, reach))


class KindsTest(unittest.TestCase):
    def test_one_house(self):
        self.assertEqual(kinds(made(*ONE)), 1)

    def test_webs_without_rings(self):
        self.assertEqual(kinds(made(*PATH)), 1)
        self.assertEqual(kinds(made(8, [(0, k) for k in range(1, 8)])), 1)

    def test_known_webs(self):
        self.assertEqual(kinds(made(*DOUBLE)), 3)
        self.assertEqual(kinds(made(*TRIANGLE)), 3)
        self.assertEqual(kinds(made(*KITE)), 10)
        self.assertEqual(kinds(made(*RING)), 8)
        self.assertEqual(kinds(made(*WHOLE_FOUR)), 16)
        self.assertEqual(kinds(made(5, list(itertools.combinations(range(5), 2)))), 125)
        self.assertEqual(kinds(made(6, list(itertools.combinations(range(6), 2)))), 1296)
        self.assertEqual(kinds(made(2, [(0, 1)] * 16)), 16)

    def test_the_ways_in_which_a_web_hangs_together_by_as_few_ties_as_can_be(self):
        for shape in ALL + SMALL:
            told = kinds(made(*shape))
            self.assertEqual(told, least_ways(*shape))
            self.assertIs(type(told), int)

    def test_all_webs_of_up_to_four_houses_with_single_ties(self):
        for houses in range(1, 5):
            joins = list(itertools.combinations(range(houses), 2))
            for choice in itertools.product((False, True), repeat=len(joins)):
                ties = [tie for tie, taken in zip(joins, choice) if taken]
                if is_joined(houses, ties):
                    self.assertEqual(kinds(made(houses, ties)), least_ways(houses, ties))

    def test_a_web_equal_to_a_told_one_will_do(self):
        self.assertEqual(kinds((2, ((0, 1), (0, 1)))), 2)


class AlikeTest(unittest.TestCase):
    def test_sums(self):
        self.assertEqual(alike(made(*ONE), [3], [4]), ("sums",))
        self.assertEqual(alike(made(*KITE), [1, 0, 0, 0], [0, 0, 0, 0]), ("sums",))
        self.assertEqual(alike(made(*PATH), [BIG, 0, 0], [BIG, 1, 0]), ("sums",))
        self.assertEqual(alike(made(*PATH), [BIG, 0, -BIG], [-1, 0, 0]), ("sums",))

    def test_lent(self):
        self.assertEqual(alike(made(*ONE), [-4], [-4]), ("lent", [0]))
        self.assertEqual(alike(made(*KITE), [1, 2, 3, 4], [1, 2, 3, 4]), ("lent", [0, 0, 0, 0]))
        self.assertEqual(alike(made(*KITE), [0, 0, 0, 0], [2, -3, 1, 0]), ("lent", [0, 1, 0, 0]))
        self.assertEqual(alike(made(*KITE), [2, -3, 1, 0], [0, 0, 0, 0]), ("lent", [0, -1, 0, 0]))
        self.assertEqual(alike(made(*DOUBLE), [0, 0], [-3, 3]), ("lent", [0, -1]))
        self.assertEqual(alike(made(*PATH), [0, 0, 1], [1, 0, 0]), ("lent", [0, 1, 2]))

    def test_house_nought_lends_nought_times(self):
        self.assertEqual(alike(made(*TRIANGLE), [0, 0, 0], [-2, 1, 1]), ("lent", [0, -1, -1]))

    def test_weighed(self):
        self.assertEqual(alike(made(*DOUBLE), [0, 0], [-1, 1]), ("weighed", 3, [0, 1]))
        self.assertEqual(alike(made(*TRIANGLE), [0, 1, 0], [1, 0, 0]), ("weighed", 3, [0, 2, 1]))
        self.assertEqual(alike(made(*KITE), [0, 0, 0, 1], [0, 0, 1, 0]), ("weighed", 10, [0, 2, 6, 11]))

    def test_weights_are_of_the_first_house_whose_product_can_not_be_divided(self):
        # The adjoint's rows are [4, 2, 2], [2, 6, 6], [2, 6, 11] for the kite.
        nobody = [0, 0, 0, 0]
        self.assertEqual(alike(made(*KITE), [-1, 0, 0, 1], nobody), ("weighed", 10, [0, 4, 2, 2]))
        self.assertEqual(alike(made(*KITE), [-5, 0, 0, 5], nobody), ("weighed", 10, [0, 2, 6, 11]))
        self.assertEqual(alike(made(*KITE), nobody, [-5, 0, 0, 5]), ("weighed", 10, [0, 2, 6, 11]))
        self.assertEqual(alike(made(*KITE), [-3, 2, 1, 0], nobody), ("lent", [0, 1, 1, 1]))
        # And [8, 4, 4], [4, 8, 4], [4, 4, 8] for four houses with a tie between each two.
        self.assertEqual(alike(made(*WHOLE_FOUR), [-3, 1, 2, 0], nobody), ("weighed", 16, [0, 4, 8, 4]))
        self.assertEqual(alike(made(*WHOLE_FOUR), [-3, 1, 1, 1], nobody), ("lent", [0, 1, 1, 1]))

    def test_numbers_of_seventy_figures(self):
        self.assertEqual(alike(made(*DOUBLE), [BIG, 0], [0, BIG]), ("lent", [0, -BIG // 3]))
        self.assertEqual(alike(made(*DOUBLE), [BIG - 1, 0], [0, BIG - 1]), ("weighed", 3, [0, 1]))
        self.assertEqual(alike(made(*PATH), [BIG, -BIG, 0], [0, 0, 0]), ("lent", [0, -BIG, -BIG]))

    def test_in_the_words_of_the_document(self):
        for shape in ALL + SMALL:
            web = made(*shape)
            many = kinds(web)
            rows = adjoint(small_table(web))
            for reach in (2, 30, BIG):
                for one, other in pairs(shape, reach, 6):
                    told = alike(web, one, other)
                    more = [one[k] - other[k] for k in range(1, shape[0])]
                    sums = [sum(a * b for a, b in zip(row, more)) for row in rows]
                    uneven = [row for row, total in zip(rows, sums) if total % many != 0]
                    if sum(one) != sum(other):
                        self.assertEqual(told, ("sums",))
                    elif uneven:
                        self.assertEqual(told, ("weighed", many, [0] + uneven[0]))
                    else:
                        self.assertEqual(told, ("lent", [0] + [total // many for total in sums]))

    def test_each_told_paper_shows_what_it_says(self):
        forms = set()
        for shape in ALL + SMALL:
            web = made(*shape)
            for reach in (2, 30, BIG):
                for one, other in pairs(shape, reach, 6):
                    told = alike(web, one, other)
                    forms.add(told[0])
                    self.assertIs(shows(web, one, other, told), True)
                    if told[0] == "lent":
                        self.assertEqual(told[1][0], 0)
                        self.assertEqual(lent(web, one, told[1]), other)
        self.assertEqual(forms, {"sums", "lent", "weighed"})

    def test_a_script_that_leads_there_is_found_again(self):
        for shape in ALL:
            web = made(*shape)
            for reach in (3, BIG):
                one = draw("from", shape[0], reach)
                script = [0] + draw("by", shape[0], reach)[1:]
                self.assertEqual(alike(web, one, lent(web, one, script)), ("lent", script))
                back = [-times for times in script]
                self.assertEqual(alike(web, lent(web, one, script), one), ("lent", back))

    def test_there_are_as_many_kinds_as_standings_none_alike_to_another(self):
        for shape in (PATH, DOUBLE, TRIANGLE, SQUARE, KITE):
            web = made(*shape)
            found = []
            for rest in itertools.product(range(4), repeat=shape[0] - 1):
                standing = [-sum(rest)] + list(rest)
                if not any(alike(web, standing, kept)[0] == "lent" for kept in found):
                    found.append(standing)
            self.assertEqual(len(found), kinds(web))

    def test_what_is_told_may_be_handed_in_again(self):
        web = made(*KITE)
        script = alike(web, [BIG, -BIG, 0, 0], lent(web, [BIG, -BIG, 0, 0], [0, BIG, BIG, -BIG]))[1]
        further = lent(web, script, script)
        self.assertEqual(alike(web, script, further), ("lent", script))

    def test_what_is_told_is_made_of_tuples_and_lists_of_whole_numbers(self):
        for shape in ALL:
            for one, other in pairs(shape, 9, 4):
                told = alike(made(*shape), one, other)
                self.assertIs(type(told), tuple)
                if told[0] == "sums":
                    self.assertEqual(len(told), 1)
                    continue
                self.assertEqual(len(told), 2 if told[0] == "lent" else 3)
                self.assertIs(type(told[-1]), list)
                self.assertEqual([type(number) for number in told[-1]], [int] * shape[0])

    def test_lengths(self):
        for shape in ALL:
            web = made(*shape)
            right = [1] * shape[0]
            for wrong in wrong_lengths(shape[0]):
                self.assertRaises(BadStanding, alike, web, wrong, right)
                self.assertRaises(BadStanding, alike, web, right, wrong)
                self.assertRaises(BadStanding, alike, web, wrong, list(wrong))
                self.assertRaises(BadStanding, alike, web, wrong, wrong + [0])


class ShowsTest(unittest.TestCase):
    def right(self, shape, one, other, paper):
        self.assertIs(shows(made(*shape), one, other, paper), True, (shape, one, other, paper))

    def wrong(self, shape, one, other, paper):
        self.assertIs(shows(made(*shape), one, other, paper), False, (shape, one, other, paper))

    def test_sums(self):
        self.right(KITE, [1, 0, 0, 0], [0, 0, 0, 0], ("sums",))
        self.right(ONE, [BIG], [BIG - 1], ("sums",))
        self.wrong(KITE, [1, 0, 0, 0], [0, 0, 0, 1], ("sums",))
        self.wrong(ONE, [BIG], [BIG], ("sums",))
        self.wrong(PATH, [BIG, -BIG, 0], [0, 0, 0], ("sums",))

    def test_lent(self):
        self.right(KITE, [0, 0, 0, 0], [2, -3, 1, 0], ("lent", [0, 1, 0, 0]))
        self.wrong(KITE, [2, -3, 1, 0], [0, 0, 0, 0], ("lent", [0, 1, 0, 0]))
        self.wrong(KITE, [0, 0, 0, 0], [2, -3, 1, 0], ("lent", [0, 0, 1, 0]))
        self.wrong(KITE, [0, 0, 0, 0], [2, -3, 1, 1], ("lent", [0, 1, 0, 0]))
        self.right(ONE, [4], [4], ("lent", [-9]))
        self.wrong(ONE, [4], [5], ("lent", [1]))

    def test_lent_with_house_nought_lending_too(self):
        for more in (1, -7, BIG):
            self.right(KITE, [0, 0, 0, 0], [2, -3, 1, 0], ("lent", [more, 1 + more, more, more]))
        self.right(PATH, [5, 5, 5], [5 - BIG, 5 + BIG, 5], ("lent", [BIG, 0, 0]))

    def test_lists_of_another_length_show_nothing(self):
        for shape in ALL:
            houses = shape[0]
            one, other = [0] * houses, [1] + [0] * (houses - 1)
            for numbers in wrong_lengths(houses):
                self.wrong(shape, one, one, ("lent", numbers))
                self.wrong(shape, one, other, ("weighed", 2, [1] * len(numbers)))
                self.wrong(shape, one, other, ("weighed", BIG, numbers))
            self.right(shape, one, one, ("lent", [0] * houses))
            self.right(shape, one, other, ("weighed", 2, [1] * houses))

    def test_weighed(self):
        self.right(DOUBLE, [0, 0], [-1, 1], ("weighed", 3, [0, 1]))
        self.right(DOUBLE, [0, 0], [-1, 1], ("weighed", 3, [0, 2]))
        self.right(DOUBLE, [0, 0], [-1, 1], ("weighed", 3, [BIG, BIG - 2]))
        self.wrong(DOUBLE, [0, 0], [-3, 3], ("weighed", 3, [0, 1]))
        self.wrong(DOUBLE, [0, 0], [-1, 1], ("weighed", 3, [0, 3]))
        self.wrong(DOUBLE, [0, 0], [-1, 1], ("weighed", 2, [0, 1]))
        self.wrong(DOUBLE, [0, 0], [-1, 1], ("weighed", 9, [0, 1]))
        self.right(DOUBLE, [0, 0], [-1, 1], ("weighed", 9, [0, 3]))
        self.right(KITE, [-5, 0, 0, 5], [0, 0, 0, 0], ("weighed", 2, [0, 0, 0, 1]))
        self.wrong(KITE, [-5, 0, 0, 5], [0, 0, 0, 0], ("weighed", 2, [0, 0, 1, 1]))

    def test_weighed_with_unlike_sums(self):
        self.right(KITE, [1, 0, 0, 0], [0, 0, 0, 0], ("weighed", 2, [1, 1, 1, 1]))
        self.right(KITE, [BIG, 0, 0, 0], [0, 0, 0, 0], ("weighed", BIG + 1, [1, 1, 1, 1]))
        self.wrong(KITE, [6, 0, 0, 0], [0, 0, 0, 0], ("weighed", 3, [1, 1, 1, 1]))
        self.right(ONE, [5], [3], ("weighed", 3, [1]))
        self.wrong(ONE, [5], [3], ("weighed", 2, [1]))

    def test_weighed_by_less_than_two(self):
        for m in (1, 0, -1, -2, -3, -10, -BIG):
            self.wrong(DOUBLE, [0, 0], [-1, 1], ("weighed", m, [0, 1]))
            self.wrong(KITE, [1, 0, 0, 0], [0, 0, 0, 0], ("weighed", m, [1, 1, 1, 1]))
            self.wrong(KITE, [1, 0, 0, 0], [1, 0, 0, 0], ("weighed", m, [0, 0, 0, 0]))
            self.wrong(ONE, [1], [0], ("weighed", m, [1]))

    def test_weighed_in_the_words_of_the_document(self):
        seen = set()
        for shape in (DOUBLE, PATH, TRIANGLE, SQUARE):
            houses = shape[0]
            web = made(*shape)
            other = [0] * houses
            for one in ([1, -1] + [0] * (houses - 2), [1] + [0] * (houses - 1), list(range(houses))):
                for m in range(-2, 6):
                    for weights in itertools.product(range(-1, 4), repeat=houses):
                        due = weighed_by_point_ten(*shape, one, other, m, weights)
                        self.assertIs(shows(web, one, other, ("weighed", m, list(weights))), due)
                        seen.add((m >= 2, due))
        self.assertEqual(seen, {(True, True), (True, False), (False, False)})

    def test_great_weights_and_numbers(self):
        web = made(*FULL)
        many = kinds(web)
        row = [0] + adjoint(small_table(web))[3]
        great = [weight + many * more + BIG for weight, more in zip(row, draw("great", 8, BIG))]
        one = draw("great one", 8, BIG)
        other = with_sum_of(draw("great other", 8, BIG), one)
        self.assertIs(shows(web, one, other, ("weighed", many, great)),
                      weighed_by_point_ten(*FULL, one, other, many, great))

    def test_no_two_papers_show_both(self):
        for shape in (DOUBLE, TRIANGLE, SQUARE):
            houses = shape[0]
            web = made(*shape)
            one = [0] * houses
            for script in itertools.product((0, 1), repeat=houses):
                other = lent(web, one, list(script))
                self.right(shape, one, other, ("lent", list(script)))
                self.wrong(shape, one, other, ("sums",))
                for m in range(2, 5):
                    for weights in itertools.product(range(m), repeat=houses):
                        self.wrong(shape, one, other, ("weighed", m, list(weights)))

    def test_the_paper_and_the_standings_stay_as_they_were(self):
        for shape in ALL:
            houses = shape[0]
            papers = [("sums",), ("lent", [2] * houses), ("lent", [1]), ("lent", []), ("weighed", 2, [1] * houses),
                      ("weighed", 0, [1] * houses), ("weighed", 5, [0] * (houses + 1))]
            for paper in papers:
                handed = [made(*shape), [3] * houses, [3] * (houses - 1) + [4], paper]
                before = copy.deepcopy(handed)
                shows(*handed)
                self.assertEqual(handed, before)

    def test_lengths_of_standings(self):
        for shape in ALL:
            houses = shape[0]
            web = made(*shape)
            right = [0] * houses
            papers = [("sums",), ("lent", right), ("lent", []), ("weighed", 2, right), ("weighed", 0, [])]
            for wrong, paper in itertools.product(wrong_lengths(houses), papers):
                self.assertRaises(BadStanding, shows, web, wrong, right, paper)
                self.assertRaises(BadStanding, shows, web, right, wrong, paper)
                self.assertRaises(BadStanding, shows, web, wrong, list(wrong), paper)
                self.assertRaises(BadStanding, shows, web, wrong, wrong + [0], paper)


if __name__ == "__main__":
    unittest.main()

"""Weighing: the number of kinds, and papers on whether two standings are alike."""

from owinghall.floors import floored, left_over, product, products
from owinghall.lendings import coins, lent, less, need_standing
from owinghall.tables import adjoint, det, small_table


def kinds(web):
    return det(small_table(web))


def alike(web, one, other):
    need_standing(web, one)
    need_standing(web, other)
    if coins(one) != coins(other):
        return ("sums",)
    many = kinds(web)
    rows = adjoint(small_table(web))
    totals = products(rows, less(one, other)[1:])
    for row, rest in zip(rows, left_over(totals, many)):
        if rest != 0:
            return ("weighed", many, [0] + row)
    return ("lent", [0] + floored(totals, many))


def shows(web, one, other, paper):
    need_standing(web, one)
    need_standing(web, other)
    if paper[0] == "sums":
        return coins(one) != coins(other)
    if paper[0] == "lent":
        return leads(web, one, other, paper[1])
    return weighs_apart(web, one, other, paper[1], paper[2])


def leads(web, one, other, script):
    return len(script) == web[0] and lent(web, one, script) == other


def weighs_apart(web, one, other, divisor, weights):
    if divisor < 2 or len(weights) != web[0]:
        return False
    # Lent from nought, the weights leave each house just its weighed ties, with the other sign.
    drops = lent(web, [0] * web[0], weights)
    if any(left_over(drops, divisor)):
        return False
    return product(less(one, other), weights) % divisor != 0

"""Clearing: papers on whether some script leaves nobody owing."""

from owinghall.lendings import lent, need_standing
from owinghall.plains import plain
from owinghall.queues import queue, ties_to


def paper(web, standing):
    told = plain(web, standing, 0)
    form = told[0]
    script = told[1]
    if form[0] >= 0:
        return ("cleared", script)
    return ("held", script, queue(web, form, 0))


def is_cleared(web, standing):
    form = plain(web, standing, 0)[0]
    return form[0] >= 0


def clears(web, standing, script):
    need_standing(web, standing)
    if len(script) != web[0]:
        return False
    return all([number >= 0 for number in lent(web, standing, script)])


def holds(web, standing, script, order):
    need_standing(web, standing)
    if len(script) != web[0] or not is_order(web, order):
        return False
    behind = lent(web, standing, script)
    return all([number <= most for number, most in zip(behind, most_in(web, order))])


def is_order(web, order):
    return sorted(order) == list(range(web[0]))


def most_in(web, order):
    told = [0] * web[0]
    for place, house in enumerate(order):
        told[house] = ties_to(web, house, order[:place]) - 1
    return told

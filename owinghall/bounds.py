"""Bounds: the most that each house has in an order, the middle of a web, and the room of a standing that is held."""

from owinghall.clearing import is_order, most_in, paper
from owinghall.errors import BadOrder, TooWide
from owinghall.lendings import lent, less
from owinghall.webs import degree

MOST_HOUSES_IN_ORDERS = 5


def bound(web, order):
    if not is_order(web, order):
        raise BadOrder("the order is not all houses, each once")
    return most_in(web, order)


def middle(web):
    return [degree(web, house) - 2 for house in range(web[0])]


def bounds(web):
    if web[0] > MOST_HOUSES_IN_ORDERS:
        raise TooWide("bounds are told of at most 5 houses")
    found = [tuple(most_in(web, order)) for order in all_orders(web[0])]
    return [list(told) for told in sorted(set(found))]


def all_orders(houses):
    orders = [[]]
    for house in range(houses):
        orders = with_house(orders, house)
    return orders


def with_house(orders, house):
    longer = []
    for order in orders:
        for place in range(len(order) + 1):
            longer.append(order[:place] + [house] + order[place:])
    return longer


def room(web, standing):
    told = paper(web, standing)
    if told[0] == "cleared":
        return None
    return less(most_in(web, told[2]), lent(web, standing, told[1]))

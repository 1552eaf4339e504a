"""Webs: a tuple of the number of houses and a tuple of the ties between them."""

from owinghall.errors import BadHouse, BadWeb, Parted

MOST_HOUSES = 8
MOST_TIES = 16


def made(houses, ties):
    need_bounds(houses, ties)
    for tie in ties:
        need_tie(houses, tie)
    # Sorting both ways makes equal webs of the same ties, however they were handed in.
    told = tuple(sorted([(min(tie), max(tie)) for tie in ties]))
    if len(reached(told)) < houses:
        raise Parted("the web is in several pieces")
    return (houses, told)


def need_bounds(houses, ties):
    if houses < 1 or houses > MOST_HOUSES:
        raise BadWeb("a hall has 1 to 8 houses")
    if len(ties) > MOST_TIES:
        raise BadWeb("a hall has at most 16 ties")


def need_tie(houses, tie):
    if not is_house(houses, tie[0]) or not is_house(houses, tie[1]):
        raise BadWeb("an end of a tie is no house")
    if tie[0] == tie[1]:
        raise BadWeb("a tie joins two unlike houses")


def is_house(houses, number):
    return 0 <= number < houses


def reached(ties):
    met = [0]
    grown = True
    while grown:
        grown = False
        for one, other in ties:
            if (one in met) != (other in met):
                met.append(other if one in met else one)
                grown = True
    return met


def need_house(web, house):
    if not is_house(web[0], house):
        raise BadHouse("the number is no house of the web")


def between(web, one, other):
    need_house(web, one)
    need_house(web, other)
    return web[1].count((min(one, other), max(one, other)))


def degree(web, house):
    need_house(web, house)
    return len([tie for tie in web[1] if house in tie])


def rings(web):
    return len(web[1]) - web[0] + 1

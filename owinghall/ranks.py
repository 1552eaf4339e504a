"""Ranks: how many coins anybody may take out of the hall, wherever they like, so that it is still cleared."""

from owinghall.clearing import is_cleared
from owinghall.errors import TooWide
from owinghall.lendings import coins, less, need_standing
from owinghall.webs import rings

MOST_HOUSES_TIMES_RINGS = 16


def rank(web, standing):
    need_standing(web, standing)
    need_narrow(web)
    # Above this sum the rank follows from the sum; counting up to it would take as long as the sum is great.
    if coins(standing) > 2 * rings(web) - 2:
        return coins(standing) - rings(web)
    many = 0
    while clears_all_takings(web, standing, many):
        many += 1
    return many - 1


def need_narrow(web):
    if web[0] * rings(web) > MOST_HOUSES_TIMES_RINGS:
        raise TooWide("ranks are told where houses times rings are at most 16")


def clears_all_takings(web, standing, many):
    for taking in takings_of(web[0], many):
        if not is_cleared(web, less(standing, taking)):
            return False
    return True


def takings_of(houses, many):
    if houses == 1:
        return [[many]]
    told = []
    for first in range(many + 1):
        told.extend([[first] + rest for rest in takings_of(houses - 1, many - first)])
    return told

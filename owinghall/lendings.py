"""Lendings: what each house has behind a script."""

from owinghall.errors import BadStanding


def need_standing(web, standing):
    if len(standing) != web[0]:
        raise BadStanding("the list has not one number for each house")


def lent(web, standing, script):
    need_standing(web, standing)
    need_standing(web, script)
    behind = list(standing)
    # Along one tie the lendings of its ends partly cancel, so only their difference moves.
    for one, other in web[1]:
        moved = script[one] - script[other]
        behind[one] -= moved
        behind[other] += moved
    return behind


def coins(standing):
    return sum(standing)


def less(one, other):
    if len(one) != len(other):
        raise BadStanding("the two lists are of unlike lengths")
    return [had - gone for had, gone in zip(one, other)]

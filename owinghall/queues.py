"""Queues: which houses are drawn in, one by one, behind a house, and which standings are plain for it."""

from owinghall.lendings import need_standing
from owinghall.webs import between, need_house


def queue(web, standing, house):
    need_standing(web, standing)
    need_house(web, house)
    joined = [house]
    newcomer = least_to_join(web, standing, joined)
    while newcomer is not None:
        joined.append(newcomer)
        newcomer = least_to_join(web, standing, joined)
    return joined


def least_to_join(web, standing, joined):
    for house in others(web, joined):
        if standing[house] < ties_to(web, house, joined):
            return house
    return None


def others(web, group):
    return [house for house in range(web[0]) if house not in group]


def ties_to(web, house, group):
    return sum([between(web, house, other) for other in group])


def outside(web, standing, house):
    return others(web, queue(web, standing, house))


def is_plain(web, standing, house):
    if len(queue(web, standing, house)) < web[0]:
        return False
    return all([standing[other] >= 0 for other in others(web, [house])])

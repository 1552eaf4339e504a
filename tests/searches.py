"""Slow answers by search, to compare the program's answers with."""

from owinghall.weighing import alike
from tests.samples import all_of_sum


def cleared_by_search(web, standing):
    """Whether it is alike to one of those of its sum in which nobody owes."""
    return any(alike(web, standing, other)[0] == "lent" for other in all_of_sum(web[0], sum(standing)))
